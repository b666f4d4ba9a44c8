"""truelevels.bridges: readings that are cuts alone."""

import itertools
import random
import unittest

from helpers import (LONE, NAMES, PAIR, RING, TRIANGLE, all_closings, all_sides, cut_by_hand, drawn_net, edge_nets,
                     is_plain, small_nets)
from truelevels.bridges import best_further, bridges, halves, unseen

PATH = ("net", NAMES[:5], ((0, 1, 5), (2, 1, 3), (1, 2, -3), (2, 3, 8), (4, 3, -1)))
STAR = ("net", NAMES[:4], ((0, 1, 5), (2, 0, 3), (0, 3, 8)))


def bridges_by_sides(net):
    """The bridges with the sides that they are the cuts of."""
    cuts = [(cut_by_hand(net, side), side) for side in all_sides(net)]
    return {cut[0]: side for cut, side in cuts if len(cut) == 1}


class Bridges(unittest.TestCase):
    def right(self, net):
        found = bridges_by_sides(net)
        told = bridges(net)
        self.assertEqual(told, tuple(sorted(found)), net)
        self.assertIs(type(told), tuple)
        self.assertTrue(all(map(is_plain, told)))
        for index, side in found.items():
            near = tuple(mark for mark in range(len(net[1])) if mark not in side)
            self.assertEqual(halves(net, index), (near, side), (net, index))
            self.assertEqual([type(half) for half in halves(net, index)], [tuple, tuple])

    def test_one_mark(self):
        self.assertEqual(bridges(LONE), ())

    def test_two_marks(self):
        single = ("net", ("a", "b"), ((1, 0, 5),))
        self.assertEqual((bridges(single), halves(single, 0)), ((0,), ((0,), (1,))))
        self.assertEqual(bridges(PAIR), ())
        self.assertEqual(bridges(("net", ("a", "b"), ((1, 0, 5), (0, 1, 5)))), ())

    def test_hand_made_nets(self):
        self.assertEqual(bridges(PATH), (0, 3, 4))
        self.assertEqual([halves(PATH, index) for index in (0, 3, 4)],
                         [((0,), (1, 2, 3, 4)), ((0, 1, 2), (3, 4)), ((0, 1, 2, 3), (4,))])
        self.assertEqual(bridges(STAR), (0, 1, 2))
        self.assertEqual(halves(STAR, 1), ((0, 1, 3), (2,)))
        self.assertEqual((bridges(RING), bridges(TRIANGLE)), ((), ()))

    def test_two_rings_that_hang_together_by_one_reading(self):
        net = ("net", NAMES[:6], ((0, 5, 1), (5, 3, 1), (3, 0, 1), (1, 3, 9), (1, 2, 1), (2, 4, 1), (4, 1, 1)))
        self.assertEqual((bridges(net), halves(net, 3)), ((3,), ((0, 3, 5), (1, 2, 4))))

    def test_a_reading_beside_another_one_is_none(self):
        for more in ((1, 0, 2), (0, 1, 5)):
            net = (PATH[0], PATH[1], PATH[2] + (more,))
            self.assertEqual(bridges(net), (3, 4))

    def test_against_all_cuts(self):
        for net in small_nets(150, 200, most_marks=7, most_readings=9):
            self.right(net)

    def test_trees(self):
        draw = random.Random(151)
        for many in (2, 5, 9):
            self.right(drawn_net(draw, many, 0, 9))
        net = drawn_net(draw, 16, 0, 9)
        self.assertEqual(bridges(net), tuple(range(15)))

    def test_nets_at_the_bounds(self):
        for net in edge_nets(152):
            found = [index for index in range(len(net[2])) if is_bridge(net, index)]
            self.assertEqual(bridges(net), tuple(found))


def is_bridge(net, index):
    """True if the ends of a reading are joined by no other ones."""
    start, end, _ = net[2][index]
    rest = net[2][:index] + net[2][index + 1:]
    found = {start}
    for _ in net[1]:
        found |= {mark for reading in rest if found & set(reading[:2]) for mark in reading[:2]}
    return end not in found


class Unseen(unittest.TestCase):
    def test_just_the_one_value_changes(self):
        self.assertEqual(unseen(PAIR, 1, 5), ("net", ("a", "b"), ((0, 1, 7), (1, 0, -2), (0, 1, 9))))
        self.assertEqual(unseen(PAIR, 0, -1000), ("net", ("a", "b"), ((0, 1, -993), (1, 0, -7), (0, 1, 9))))
        self.assertEqual(unseen(PATH, 4, 3)[2], ((0, 1, 5), (2, 1, 3), (1, 2, -3), (2, 3, 8), (4, 3, 2)))
        for net in small_nets(153, 60, most_marks=6, most_readings=9) + edge_nets(153):
            for index in range(0, len(net[2]), 7):
                for more in (-3, 0, 1, 1000000):
                    told = unseen(net, index, more)
                    self.assertEqual(told[:2], net[:2])
                    changes = [new[2] - old[2] for old, new in zip(net[2], told[2])]
                    self.assertEqual(changes, [more * (place == index) for place in range(len(net[2]))])
                    self.assertEqual([row[:2] for row in told[2]], [row[:2] for row in net[2]])
                    self.assertTrue(type(told[2]) is tuple and all(type(row) is tuple for row in told[2]))

    def test_for_a_bridge_all_rings_close_with_what_they_closed_with(self):
        seen = set()
        for net in small_nets(154, 80, most_marks=5, most_readings=6):
            found = bridges(net)
            for index in range(len(net[2])):
                same = all_closings(unseen(net, index, 5)) == all_closings(net)
                self.assertIs(same, index in found, (net, index))
                seen.add((same, len(all_closings(net)) > 0))
        self.assertEqual(seen, {(True, False), (True, True), (False, True)})


class BestFurther(unittest.TestCase):
    def right(self, net):
        """Check the pair by all pairs."""
        best = ()
        for one, other in itertools.combinations(range(len(net[1])), 2):
            many = len(bridges((net[0], net[1], net[2] + ((one, other, 0),))))
            if not best or many < best[2]:
                best = (one, other, many)
        told = best_further(net)
        self.assertEqual(told, best, net)
        self.assertTrue(type(told) is tuple and all(map(is_plain, told)))

    def test_one_mark(self):
        self.assertEqual(best_further(LONE), ())

    def test_two_marks(self):
        self.assertEqual(best_further(("net", ("a", "b"), ((1, 0, 5),))), (0, 1, 0))
        self.assertEqual(best_further(PAIR), (0, 1, 0))

    def test_nets_without_bridges(self):
        self.assertEqual(best_further(RING), (0, 1, 0))
        self.assertEqual(best_further(TRIANGLE), (0, 1, 0))

    def test_hand_made_nets(self):
        self.assertEqual(best_further(PATH), (0, 4, 0))
        self.assertEqual(best_further(STAR), (1, 2, 1))
        net = ("net", NAMES[:6], ((0, 1, 0), (1, 2, 0), (1, 3, 0), (3, 4, 0), (3, 5, 0)))
        self.assertEqual(best_further(net), (0, 4, 2))

    def test_against_all_pairs(self):
        for net in small_nets(155, 150, most_marks=8, most_readings=10):
            self.right(net)

    def test_nets_with_many_marks(self):
        draw = random.Random(156)
        for many in (0, 16, 20):
            self.right(drawn_net(draw, 16, many, 9))
        self.right(("net", NAMES, tuple((mark, mark + 1, 1) for mark in range(15))))


if __name__ == "__main__":
    unittest.main()
