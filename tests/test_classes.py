"""truelevels.classes: x1 to x3."""

import random
import unittest

from helpers import (LONE, NAMES, PAIR, RING, TRIANGLE, all_sides, best_by_search, cut_by_hand, edge_nets, is_plain,
                     kept_values, least_by_sides, pairs_of, small_nets, with_lies)
from truelevels.adjust import best_paper
from truelevels.classes import classes, is_sure, sure_against, sure_heights
from truelevels.cuts import least_cut, strength

# Three marks that hang together by three readings each, and two that hang on by two and by one.
CLUSTER = ("net", NAMES[:5], ((0, 2, 1), (2, 0, 2), (0, 2, 3), (2, 4, 4), (4, 2, 5), (4, 0, 6), (1, 0, 7), (0, 1, 8),
                              (3, 1, 9)))


def classes_by_sides(net, t):
    """The classes for t: each mark goes with all marks that no cut of less than t readings parts from it."""
    sides = [side for side in all_sides(net) if len(cut_by_hand(net, side)) < t]
    marks = range(len(net[1]))
    found = []
    for one in marks:
        row = tuple(mark for mark in marks if all((one in side) == (mark in side) for side in sides))
        if row not in found:
            found.append(row)
    return tuple(found)


def classes_by_ways(net, t):
    """The classes for t, by the greatest numbers of ways."""
    found = []
    for mark in range(len(net[1])):
        homes = [row for row in found if len(least_cut(net, row[-1], mark)[1]) >= t]
        if homes:
            homes[0].append(mark)
        else:
            found.append([mark])
    return tuple(map(tuple, found))


def most_between(net):
    """The greatest number of readings between two marks."""
    rows = [frozenset(reading[:2]) for reading in net[2]]
    return max((rows.count(row) for row in rows), default=0)


class Classes(unittest.TestCase):
    def has(self, net, t, found):
        told = classes(net, t)
        self.assertEqual(told, found, (net, t))
        self.assertIs(type(told), tuple)
        for row in told:
            self.assertIs(type(row), tuple)
            self.assertTrue(all(map(is_plain, row)))
            self.assertEqual(list(row), sorted(row))
        self.assertEqual([row[0] for row in told], sorted(row[0] for row in told))
        self.assertEqual(sorted(mark for row in told for mark in row), list(range(len(net[1]))))

    def test_one_mark(self):
        for t in (1, 2, 3, 99):
            self.has(LONE, t, ((0,),))

    def test_hand_made_nets(self):
        self.has(PAIR, 3, ((0, 1),))
        self.has(PAIR, 4, ((0,), (1,)))
        self.has(TRIANGLE, 2, ((0, 1, 2),))
        self.has(TRIANGLE, 3, ((0, 1), (2,)))
        self.has(RING, 2, ((0, 1, 2, 3),))
        self.has(RING, 3, ((0, 2), (1,), (3,)))
        self.has(RING, 4, ((0,), (1,), (2,), (3,)))
        self.has(CLUSTER, 1, ((0, 1, 2, 3, 4),))
        self.has(CLUSTER, 2, ((0, 1, 2, 4), (3,)))
        self.has(CLUSTER, 3, ((0, 2, 4), (1,), (3,)))
        self.has(CLUSTER, 4, ((0, 2), (1,), (3,), (4,)))
        self.has(CLUSTER, 5, ((0,), (1,), (2,), (3,), (4,)))

    def test_a_class_without_the_first_mark(self):
        net = ("net", NAMES[:4], ((0, 2, 1), (3, 1, 1), (1, 3, 1), (1, 3, 1), (2, 3, 1)))
        self.has(net, 2, ((0,), (1, 3), (2,)))

    def test_marks_that_hang_together_through_others_alone(self):
        net = ("net", NAMES[:5], ((0, 1, 1), (1, 4, 1), (0, 2, 1), (2, 4, 1), (0, 3, 1), (3, 4, 1)))
        self.has(net, 3, ((0, 4), (1,), (2,), (3,)))

    def test_against_all_sides(self):
        for net in small_nets(90, 120, most_marks=6, most_readings=18) + small_nets(91, 20, most_marks=8,
                                                                                    most_readings=24):
            for t in range(1, max(most_between(net), len(net[2])) + 3):
                self.has(net, t, classes_by_sides(net, t))

    def test_nets_at_the_bounds(self):
        for net in edge_nets(92):
            for t in list(range(1, 14)) + [79, 80, 81, 1000]:
                self.has(net, t, classes_by_ways(net, t))


class SureDifferences(unittest.TestCase):
    def test_hand_made_nets(self):
        self.assertEqual((sure_against(PAIR, 0, 1), sure_against(PAIR, 1, 0)), (1, 1))
        self.assertIs(is_sure(PAIR, 1, 0, 1), True)
        self.assertIs(is_sure(PAIR, 2, 0, 1), False)
        self.assertEqual(sure_against(CLUSTER, 0, 4), 1)
        self.assertEqual(sure_against(CLUSTER, 4, 2), 1)
        self.assertEqual(sure_against(CLUSTER, 0, 1), 0)
        self.assertEqual(sure_against(CLUSTER, 3, 4), 0)

    def test_each_pair_in_both_orders_against_all_sides(self):
        for net in small_nets(93, 80, most_marks=6, most_readings=20):
            for one, other in pairs_of(net):
                size = least_by_sides(net, one, other)
                for k in range(size + 2):
                    self.assertIs(is_sure(net, k, one, other), size >= 2 * k + 1, (net, k, one, other))
                most = sure_against(net, one, other)
                self.assertIs(type(most), int)
                self.assertTrue(2 * most + 1 <= size < 2 * most + 3, (net, one, other))

    def test_many_readings_between_two_marks(self):
        for many in (1, 2, 3, 4, 5, 79, 80):
            net = ("net", ("a", "b"), tuple((n % 2, 1 - n % 2, n) for n in range(many)))
            for one, other in ((0, 1), (1, 0)):
                self.assertEqual(sure_against(net, one, other), (many - 1) // 2)
                self.assertIs(is_sure(net, (many - 1) // 2, one, other), True)
                self.assertIs(is_sure(net, (many + 1) // 2, one, other), False)
                self.assertIs(is_sure(net, 10 ** 9, one, other), False)

    def test_all_differences_of_a_net_are_as_sure_as_it_is_strong(self):
        for net in edge_nets(94):
            most = min(sure_against(net, 0, mark) for mark in range(1, len(net[1])))
            self.assertEqual(most, (strength(net) - 1) // 2)

    def test_best_heights_have_what_is_sure(self):
        draw = random.Random(95)
        seen = set()
        for net in small_nets(95, 150, most_marks=4, most_readings=8):
            heights = (0,) + tuple(draw.randint(-2, 2) for _ in net[1][1:])
            for k in (0, 1, 2):
                told = with_lies(draw, net, heights, k, 2)
                best = best_by_search(told, 5)
                for one, other in pairs_of(net):
                    if is_sure(net, k, one, other):
                        seen.add((k, len(best) > 1))
                        self.assertEqual({row[one] - row[other] for row in best}, {heights[one] - heights[other]})
        self.assertTrue({(1, False), (1, True)} <= seen)

    def test_best_heights_of_greater_nets_have_what_is_sure(self):
        draw = random.Random(96)
        for net in small_nets(96, 60, most_marks=9, most_readings=40) + edge_nets(96):
            heights = (0,) + tuple(draw.randint(-9, 9) for _ in net[1][1:])
            for k in (1, 2, 3, 4):
                best = best_paper(with_lies(draw, net, heights, k, 1000000))[1]
                for one, other in pairs_of(net)[:60]:
                    if is_sure(net, k, one, other):
                        self.assertEqual(best[one] - best[other], heights[one] - heights[other])

    def test_what_is_not_sure_can_come_out_otherwise(self):
        for net in small_nets(97, 80, most_marks=4, most_readings=9):
            zeros = (0,) * len(net[1])
            for one, other in pairs_of(net):
                k = sure_against(net, one, other) + 1
                side = least_cut(net, one, other)[0]
                rows = list(kept_values(net, zeros)[2])
                for index in cut_by_hand(net, side)[:k]:
                    start, end, _ = rows[index]
                    rows[index] = (start, end, 1 if end in side else -1)
                best = best_by_search((net[0], net[1], tuple(rows)), 1)
                self.assertTrue(any(row[one] != row[other] for row in best), (net, one, other))


class SureHeights(unittest.TestCase):
    def test_hand_made_nets(self):
        self.assertEqual(sure_heights(PAIR, 1, (0, 7)), (((0, 0), (1, 7)),))
        self.assertEqual(sure_heights(PAIR, 2, (0, 7)), (((0, 0),), ((1, 0),)))
        self.assertEqual(sure_heights(CLUSTER, 1, (0, 10, -4, 3, 8)),
                         (((0, 0), (2, -4), (4, 8)), ((1, 0),), ((3, 0),)))
        self.assertEqual(sure_heights(CLUSTER, 0, (0, 10, -4, 3, 8)),
                         (((0, 0), (1, 10), (2, -4), (3, 3), (4, 8)),))
        net = ("net", NAMES[:4], ((0, 2, 1), (3, 1, 1), (1, 3, 1), (1, 3, 1), (2, 3, 1)))
        self.assertEqual(sure_heights(net, 1, (0, 50, 7, 20)), (((0, 0),), ((1, 0), (3, -30)), ((2, 0),)))

    def test_heights_of_another_first_one(self):
        self.assertEqual(sure_heights(PAIR, 1, (5, 7)), (((0, 0), (1, 2)),))
        self.assertEqual(sure_heights(PAIR, 0, (-5, -5)), (((0, 0), (1, 0)),))
        self.assertEqual(sure_heights(LONE, 3, (12,)), (((0, 0),),))

    def test_one_mark(self):
        for k in (0, 1, 99):
            self.assertEqual(sure_heights(LONE, k, (0,)), (((0, 0),),))

    def test_against_all_sides(self):
        draw = random.Random(98)
        for net in small_nets(98, 60, most_marks=6, most_readings=18):
            for k in range(4):
                heights = tuple(draw.randint(-10 ** 9, 10 ** 9) for _ in net[1])
                told = sure_heights(net, k, heights)
                found = classes_by_sides(net, 2 * k + 1)
                self.assertEqual(told, tuple(tuple((mark, heights[mark] - heights[row[0]]) for mark in row)
                                             for row in found))
                self.assertTrue(all(is_plain(number) for row in told for pair in row for number in pair))

    def test_nets_at_the_bounds(self):
        draw = random.Random(99)
        for net in edge_nets(99):
            heights = tuple(draw.randint(-9, 9) for _ in net[1])
            for k in (0, 1, 2, 3, 4, 40):
                rows = [[mark for mark, _ in row] for row in sure_heights(net, k, heights)]
                self.assertEqual(tuple(map(tuple, rows)), classes_by_ways(net, 2 * k + 1))


if __name__ == "__main__":
    unittest.main()
