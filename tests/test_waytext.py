"""truelevels.waytext: d2, d3, x1 and x2 in texts."""

import random
import unittest

from helpers import (LONE, NAMES, PAIR, RING, TRIANGLE, all_sides, cut_by_hand, drawn_net, edge_nets, kept_values,
                     least_by_sides, pairs_of, small_nets)
from truelevels.classes import sure_against
from truelevels.cuts import least_cut
from truelevels.waytext import sure_text, ways_text

# Two marks that are joined by two ways, the readings of one of which run both ways.
BENT = ("net", ("a", "b", "c", "d"), ((0, 1, 3), (2, 1, 10), (2, 3, 100), (0, 3, 1000)))


def steps_of(net, names):
    """The pairs of marks of a way by its names."""
    marks = [net[1].index(name) for name in names]
    return list(zip(marks, marks[1:]))


def can_be(net, ways, used=frozenset()):
    """True if there are readings for the ways, none used twice, that rise as the ways are told to."""
    if not ways:
        return True
    steps, rise = ways[0]
    if not steps:
        return rise == 0 and can_be(net, ways[1:], used)
    for index, (start, end, value) in enumerate(net[2]):
        if index not in used and steps[0] in ((start, end), (end, start)):
            up = value if steps[0] == (start, end) else -value
            if can_be(net, [(steps[1:], rise - up)] + ways[1:], used | {index}):
                return True
    return False


def are_there(net, ways):
    """True if there are as many readings between any two marks as the ways use."""
    steps = [tuple(sorted(step)) for way, _ in ways for step in way]
    rows = [tuple(sorted(reading[:2])) for reading in net[2]]
    return all(steps.count(step) <= rows.count(step) for step in steps)


class WaysTexts(unittest.TestCase):
    def read(self, net, one, other):
        """The ways of the text, as steps and rises, with its last two lines."""
        told = ways_text(net, one, other)
        self.assertIs(type(told), str)
        self.assertTrue(told.endswith("\n"))
        lines = told.split("\n")[:-1]
        ways = []
        for line in lines[:-2]:
            names, word, rise = line.rpartition(" is ")
            self.assertEqual((word, str(int(rise))), (" is ", rise))
            names = names.split(" ")
            self.assertEqual((names[0], names[-1]), (net[1][one], net[1][other]))
            ways.append((steps_of(net, names), int(rise)))
        return ways, lines[-2], lines[-1]

    def right(self, net, one, other, size, search=True):
        """Check the text for two marks that are parted by so many readings at the least."""
        ways, cut, sure = self.read(net, one, other)
        self.assertEqual(len(ways), size)
        self.assertEqual(sure, f"sure against {(size - 1) // 2}")
        self.assertTrue(are_there(net, ways), (net, one, other, ways))
        if search:
            self.assertTrue(can_be(net, ways), (net, one, other, ways))
        self.assertTrue(cut.startswith("cut "))
        indices = cut[4:].split(" ")
        self.assertEqual([str(int(word)) for word in indices], indices)
        indices = [int(word) for word in indices]
        self.assertEqual(len(indices), size)
        self.assertEqual(indices, sorted(set(indices)))
        self.assertTrue(set(indices) <= set(range(len(net[2]))))
        self.assertTrue(self.parts(net, indices, one, other), (net, indices, one, other))
        return ways

    def parts(self, net, indices, one, other):
        """True if these readings are all of a cut that parts the two marks."""
        left = [reading for index, reading in enumerate(net[2]) if index not in indices]
        found = {one}
        for _ in net[1]:
            found |= {mark for reading in left if found & set(reading[:2]) for mark in reading[:2]}
        # Each reading of a least cut has one end where one still comes to.
        return other not in found and all((net[2][k][0] in found) != (net[2][k][1] in found) for k in indices)

    def test_two_marks(self):
        single = ("net", ("a", "b"), ((0, 1, 5),))
        self.assertEqual(ways_text(single, 0, 1), "a b is 5\ncut 0\nsure against 0\n")
        self.assertEqual(ways_text(single, 1, 0), "b a is -5\ncut 0\nsure against 0\n")
        turned = ("net", ("low", "high"), ((1, 0, -7),))
        self.assertEqual(ways_text(turned, 0, 1), "low high is 7\ncut 0\nsure against 0\n")
        self.assertEqual(ways_text(turned, 1, 0), "high low is -7\ncut 0\nsure against 0\n")

    def test_several_readings_between_two_marks(self):
        for one, other, lines in ((0, 1, ["a b is 7", "a b is 7", "a b is 9"]),
                                  (1, 0, ["b a is -7", "b a is -7", "b a is -9"])):
            told = ways_text(PAIR, one, other).split("\n")
            self.assertEqual(sorted(told[:3]), lines)
            self.assertEqual(told[3:], ["cut 0 1 2", "sure against 1", ""])

    def test_ways_over_several_marks(self):
        told = ways_text(BENT, 0, 2).split("\n")
        self.assertEqual(sorted(told[:2]), ["a b c is -7", "a d c is 900"])
        told = ways_text(BENT, 2, 0).split("\n")
        self.assertEqual(sorted(told[:2]), ["c b a is 7", "c d a is -900"])
        self.assertEqual(told[3:], ["sure against 0", ""])
        path = ("net", ("a", "b", "c", "d"), ((1, 0, 5), (1, 2, 6), (3, 2, 7)))
        self.assertEqual(ways_text(path, 0, 3).split("\n")[0], "a b c d is -6")
        self.assertEqual(ways_text(path, 3, 0).split("\n")[0], "d c b a is 6")

    def test_hand_made_nets(self):
        for net in (TRIANGLE, RING, BENT):
            for one, other in pairs_of(net):
                self.right(net, one, other, least_by_sides(net, one, other))

    def test_marks_with_the_words_of_the_text_as_names(self):
        net = ("net", ("is", "cut", "sure", "against"), ((0, 1, 3), (1, 2, 4), (3, 2, 5)))
        self.assertEqual(ways_text(net, 0, 3).split("\n")[0], "is cut sure against is 2")

    def test_each_pair_of_small_nets_in_both_orders(self):
        for net in small_nets(160, 80, most_marks=6, most_readings=11, most=1000):
            for one, other in pairs_of(net):
                self.right(net, one, other, least_by_sides(net, one, other))

    def test_both_directions_of_readings(self):
        draw = random.Random(161)
        for net in small_nets(162, 40, most_marks=5, most_readings=9, most=9):
            rows = [row if draw.random() < 0.5 else (row[1], row[0], -row[2]) for row in net[2]]
            turned = (net[0], net[1], tuple(rows))
            for one, other in pairs_of(net):
                self.right(turned, one, other, least_by_sides(net, one, other))

    def test_greater_nets_that_heights_keep(self):
        draw = random.Random(163)
        for net in edge_nets(163) + [drawn_net(draw, 16, 60, 9) for _ in range(5)]:
            heights = (0,) + tuple(draw.randint(-1000000, 1000000) for _ in net[1][1:])
            told = kept_values(net, heights)
            for one, other in draw.sample(pairs_of(net), min(12, len(pairs_of(net)))):
                size = len(least_cut(net, one, other)[1])
                ways = self.right(told, one, other, size, search=False)
                self.assertEqual([rise for _, rise in ways], [heights[other] - heights[one]] * size)

    def test_sure_against_as_classes_tells(self):
        for net in small_nets(164, 40, most_marks=5, most_readings=20):
            for one, other in pairs_of(net):
                self.assertEqual(self.read(net, one, other)[2], f"sure against {sure_against(net, one, other)}")


class SureTexts(unittest.TestCase):
    def test_hand_made_nets(self):
        self.assertEqual(sure_text(PAIR, 0, (0, 7)), "a b 7\n")
        self.assertEqual(sure_text(PAIR, 1, (0, 7)), "a b 7\n")
        self.assertEqual(sure_text(PAIR, 2, (0, 7)), "a\nb\n")
        self.assertEqual(sure_text(TRIANGLE, 0, (0, 4, -9)), "a b 4 c -9\n")
        self.assertEqual(sure_text(TRIANGLE, 1, (0, 4, -9)), "a b 4\nc\n")
        self.assertEqual(sure_text(RING, 1, (0, 3, 8, 2)), "a c 8\nb\nd\n")

    def test_heights_above_the_first_mark_of_the_class(self):
        net = ("net", NAMES[:4], ((0, 2, 1), (3, 1, 1), (1, 3, 1), (1, 3, 1), (2, 3, 1)))
        self.assertEqual(sure_text(net, 1, (0, 50, 7, 20)), "a\nb d -30\nc\n")

    def test_heights_of_any_kind(self):
        self.assertEqual(sure_text(PAIR, 1, (5, 7)), "a b 2\n")
        self.assertEqual(sure_text(PAIR, 1, (-5, -5)), "a b 0\n")
        self.assertEqual(sure_text(TRIANGLE, 0, (10 ** 9, 0, -10 ** 9)), f"a b {-10 ** 9} c {-2 * 10 ** 9}\n")

    def test_one_mark(self):
        for k in (0, 1, 99):
            self.assertEqual(sure_text(LONE, k, (0,)), "a\n")

    def test_names(self):
        net = ("net", ("zoo", "b", "mill"), ((0, 1, 4), (0, 1, 4), (1, 2, 4)))
        self.assertEqual(sure_text(net, 0, (0, -4, 12)), "zoo b -4 mill 12\n")

    def test_against_all_sides(self):
        draw = random.Random(165)
        for net in small_nets(165, 60, most_marks=6, most_readings=18):
            heights = tuple(draw.randint(-99, 99) for _ in net[1])
            for k in range(3):
                small = [side for side in all_sides(net) if len(cut_by_hand(net, side)) < 2 * k + 1]
                left = list(range(len(net[1])))
                lines = []
                while left:
                    first = left[0]
                    row = [mark for mark in left if all((mark in side) == (first in side) for side in small)]
                    left = [mark for mark in left if mark not in row]
                    others = [f" {net[1][mark]} {heights[mark] - heights[first]}" for mark in row[1:]]
                    lines.append(net[1][first] + "".join(others) + "\n")
                self.assertEqual(sure_text(net, k, heights), "".join(lines))


if __name__ == "__main__":
    unittest.main()
