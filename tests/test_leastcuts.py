"""truelevels.leastcuts: x4."""

import itertools
import random
import unittest

from helpers import (LONE, NAMES, PAIR, RING, TRIANGLE, all_sides, cut_by_hand, drawn_net, is_plain, small_nets,
                     strength_by_sides)
from truelevels.errors import BadNet
from truelevels.leastcuts import best_pair, least_cuts, weak_readings

TRIPLE = ("net", ("a", "b", "c"), ((0, 1, 7), (1, 2, 3), (2, 0, -9)))


def ring_of(many):
    """A net with so many marks in a ring."""
    return ("net", NAMES[:many], tuple((mark, (mark + 1) % many, 5) for mark in range(many)))


def cuts_by_hand(net):
    """The sides of all least cuts, those with few marks first."""
    least = strength_by_sides(net)
    # The sides come by their lengths and then in order.
    return tuple(side for side in all_sides(net) if len(cut_by_hand(net, side)) == least)


def pair_by_hand(net, sides):
    """The first pair that the most sides part, with their number."""
    best = ()
    for one, other in itertools.combinations(range(len(net[1])), 2):
        many = sum((one in side) != (other in side) for side in sides)
        if not best or many > best[2]:
            best = (one, other, many)
    return best


class AllLeastCuts(unittest.TestCase):
    def right(self, net):
        sides = cuts_by_hand(net)
        told = least_cuts(net)
        self.assertEqual(told, sides, net)
        self.assertTrue(type(told) is tuple and all(type(side) is tuple for side in told))
        weak = weak_readings(net)
        self.assertEqual(weak, tuple(sorted({index for side in sides for index in cut_by_hand(net, side)})), net)
        pair = best_pair(net)
        self.assertEqual(pair, pair_by_hand(net, sides), net)
        for row in told + (weak, pair):
            self.assertTrue(all(map(is_plain, row)))

    def test_one_mark(self):
        self.assertEqual(least_cuts(LONE), ())
        self.assertEqual(weak_readings(LONE), ())
        self.assertEqual(best_pair(LONE), ())

    def test_two_marks(self):
        self.assertEqual((least_cuts(PAIR), weak_readings(PAIR), best_pair(PAIR)), (((1,),), (0, 1, 2), (0, 1, 1)))

    def test_hand_made_nets(self):
        self.assertEqual(least_cuts(TRIPLE), ((1,), (2,), (1, 2)))
        self.assertEqual((weak_readings(TRIPLE), best_pair(TRIPLE)), ((0, 1, 2), (0, 1, 2)))
        self.assertEqual((least_cuts(TRIANGLE), weak_readings(TRIANGLE), best_pair(TRIANGLE)),
                         (((2,),), (2, 3), (0, 2, 1)))
        self.assertEqual(least_cuts(RING), ((1,), (3,)))
        self.assertEqual(weak_readings(RING), (0, 1, 2, 3))
        self.assertEqual(best_pair(RING), (1, 3, 2))

    def test_the_order_of_the_sides(self):
        net = ("net", NAMES[:4], ((0, 1, 0), (1, 2, 0), (2, 3, 0)))
        self.assertEqual(least_cuts(net), ((3,), (2, 3), (1, 2, 3)))
        net = ("net", NAMES[:4], ((0, 3, 0), (3, 1, 0), (0, 2, 0)))
        self.assertEqual(least_cuts(net), ((1,), (2,), (1, 3)))
        self.assertEqual(best_pair(net), (1, 2, 3))
        self.assertEqual(len(least_cuts(ring_of(12))), 66)

    def test_the_first_of_several_pairs(self):
        net = ("net", NAMES[:4], ((0, 1, 0), (0, 2, 0), (0, 3, 0)))
        self.assertEqual(best_pair(net), (1, 2, 2))
        self.assertEqual(best_pair(ring_of(4)), (0, 2, 4))
        self.assertEqual(best_pair(ring_of(5)), (0, 2, 6))

    def test_against_all_sides(self):
        for net in small_nets(100, 150, most_marks=6, most_readings=14) + small_nets(101, 20, most_marks=9,
                                                                                     most_readings=24):
            self.right(net)

    def test_nets_with_12_marks(self):
        self.right(ring_of(12))
        self.right(("net", NAMES[:12], tuple((0, mark, 1) for mark in range(1, 12))))
        self.right(drawn_net(random.Random(102), 12, 80, 1000000))
        self.right(("net", NAMES[:12], (ring_of(12)[2] * 7)[:80]))

    def test_a_further_reading_makes_just_those_greater_that_part_its_ends(self):
        for net in small_nets(103, 60, most_marks=5, most_readings=10):
            least = strength_by_sides(net)
            for one, other in itertools.combinations(range(len(net[1])), 2):
                more = (net[0], net[1], net[2] + ((other, one, 3),))
                left = tuple(side for side in least_cuts(net) if (one in side) == (other in side))
                if left:
                    self.assertEqual(least_cuts(more), left)
                else:
                    self.assertEqual(strength_by_sides(more), least + 1)

    def test_too_many_marks(self):
        for many in (13, 14, 15, 16):
            for function in (least_cuts, weak_readings, best_pair):
                with self.assertRaises(BadNet) as caught:
                    function(ring_of(many))
                self.assertEqual((caught.exception.line, caught.exception.reason), (0, "too great"))
                self.assertIs(type(caught.exception.line), int)


if __name__ == "__main__":
    unittest.main()
