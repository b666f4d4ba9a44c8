"""truelevels.cuts: d1 to d5."""

import random
import unittest

from helpers import (LONE, NAMES, PAIR, RING, TRIANGLE, all_sides, are_apart, cut_by_hand, drawn_net, edge_nets, goes,
                     is_good_side, small_nets)
from truelevels.cuts import cut_of, least_cut, strength, strength_paper
from truelevels.judge import judge


class Cutting(unittest.TestCase):
    def least(self, net, one, other, size=None):
        """Check that side and ways are as d3 tells, which proves each of them, and give their number."""
        told = least_cut(net, one, other)
        self.assertIs(type(told), tuple)
        side, ways = told
        self.assertTrue(is_good_side(net, side), (net, one, other, side))
        self.assertNotEqual(one in side, other in side, (net, one, other, side))
        self.assertIs(type(ways), tuple)
        self.assertEqual(len(ways), len(cut_by_hand(net, side)), (net, one, other))
        for way in ways:
            self.assertTrue(goes(net, way, one, other), (net, one, other, way))
        self.assertTrue(are_apart(ways), (net, one, other, ways))
        if size is not None:
            self.assertEqual(len(ways), size, (net, one, other))
        return len(ways)

    def paper(self, net, size=None):
        """Check a paper of strength part by part, and give its number."""
        told = strength_paper(net)
        self.assertEqual((type(told), len(told), told[0]), (tuple, 4, "strength"))
        _, number, side, ways = told
        self.assertIs(type(number), int)
        self.assertTrue(is_good_side(net, side), (net, side))
        self.assertEqual(len(cut_by_hand(net, side)), number, (net, side))
        self.assertEqual((type(ways), len(ways)), (tuple, len(net[1]) - 1))
        for mark, rows in enumerate(ways, start=1):
            self.assertEqual((type(rows), len(rows)), (tuple, number), net)
            self.assertTrue(all(goes(net, way, 0, mark) for way in rows), (net, mark, rows))
            self.assertTrue(are_apart(rows), (net, mark, rows))
        self.assertIs(judge(net, told), True)
        self.assertEqual(strength(net), number)
        if size is not None:
            self.assertEqual(number, size, net)
        return number


class CutsOfSides(unittest.TestCase):
    def test_hand_made_sides(self):
        self.assertEqual(cut_of(PAIR, (1,)), (0, 1, 2))
        self.assertEqual(cut_of(TRIANGLE, (1,)), (0, 1, 2))
        self.assertEqual(cut_of(TRIANGLE, (2,)), (2, 3))
        self.assertEqual(cut_of(TRIANGLE, (1, 2)), (0, 1, 3))
        self.assertEqual(cut_of(RING, (1, 3)), (0, 1, 2, 3))
        self.assertEqual(cut_of(RING, (2,)), (1, 2, 4))
        self.assertEqual(cut_of(RING, (1, 2, 3)), (0, 3, 4))

    def test_all_sides_of_drawn_nets(self):
        for net in small_nets(40, 40, most_marks=6, most_readings=14) + edge_nets(40)[:1]:
            for side in list(all_sides(net))[:200]:
                self.assertEqual(cut_of(net, side), cut_by_hand(net, side))


class LeastCuts(Cutting):
    def test_hand_made_nets(self):
        for one, other in ((0, 1), (1, 0)):
            self.least(PAIR, one, other, 3)
            self.least(TRIANGLE, one, other, 3)
        for one, other in ((0, 2), (2, 0), (1, 2), (2, 1)):
            self.least(TRIANGLE, one, other, 2)
        self.assertEqual(least_cut(PAIR, 0, 1)[0], (1,))
        self.assertEqual(least_cut(PAIR, 1, 0)[0], (1,))
        self.assertEqual(least_cut(TRIANGLE, 1, 2)[0], (2,))
        self.assertEqual(least_cut(TRIANGLE, 2, 1)[0], (2,))
        self.least(RING, 0, 2, 3)
        self.least(RING, 1, 3, 2)

    def test_a_side_that_has_neither_the_first_mark_nor_ends_there(self):
        net = ("net", ("a", "b", "c", "d"), ((0, 1, 1), (0, 1, 1), (1, 2, 1), (2, 3, 1), (2, 3, 1)))
        for one, other in ((1, 2), (2, 1), (0, 3), (3, 0), (1, 3), (0, 2)):
            self.least(net, one, other, 1)
            self.assertEqual(least_cut(net, one, other)[0], (2, 3))

    def test_a_way_that_must_be_taken_back(self):
        edges = ((0, 1), (1, 2), (0, 3), (3, 2), (2, 5), (3, 4), (4, 5), (1, 4))
        for turned in (False, True):
            readings = tuple((other, one, 0) if turned else (one, other, 0) for one, other in edges)
            for order in (readings, readings[::-1], readings[3:] + readings[:3]):
                net = ("net", NAMES[:6], order)
                self.least(net, 0, 5, 2)
                self.least(net, 5, 0, 2)

    def test_trees(self):
        draw = random.Random(41)
        net = drawn_net(draw, 9, 0, 5)
        for one in range(9):
            for other in range(9):
                if one != other:
                    self.least(net, one, other, 1)

    def test_each_pair_in_both_orders_against_all_sides(self):
        for net in small_nets(42, 60, most_marks=6, most_readings=14):
            sides = [(side, len(cut_by_hand(net, side))) for side in all_sides(net)]
            for one in range(len(net[1])):
                for other in range(len(net[1])):
                    if one != other:
                        sizes = [size for side, size in sides if (one in side) != (other in side)]
                        self.least(net, one, other, min(sizes))

    def test_nets_at_the_bounds(self):
        for net in edge_nets(43):
            for one, other in ((0, 1), (1, 0), (0, len(net[1]) - 1), (len(net[1]) - 1, 1)):
                if one != other:
                    self.least(net, one, other)

    def test_two_marks_with_many_readings(self):
        net = ("net", ("a", "b"), tuple((n % 2, 1 - n % 2, n) for n in range(80)))
        self.least(net, 0, 1, 80)
        self.least(net, 1, 0, 80)

    def test_all_marks_with_all_others(self):
        net = ("net", NAMES[:12], tuple((one, other, 0) for other in range(12) for one in range(other)))
        for one, other in ((0, 1), (3, 7), (11, 0), (11, 10)):
            self.least(net, one, other, 11)


class Strengths(Cutting):
    def test_one_mark(self):
        self.assertEqual(strength(LONE), -1)
        self.assertEqual(strength_paper(LONE), ("strength", -1, (), ()))

    def test_hand_made_nets(self):
        self.paper(PAIR, 3)
        self.paper(TRIANGLE, 2)
        self.paper(RING, 2)

    def test_the_weakest_cut_far_from_the_first_mark(self):
        double = tuple((mark, mark + 1, 0) for mark in range(6)) * 2
        self.paper(("net", NAMES[:8], double + ((6, 7, 3),)), 1)
        self.paper(("net", NAMES[:8], ((5, 7, 3),) + double), 1)
        self.paper(("net", NAMES[:8], ((5, 7, 3),) + double + ((7, 6, 3),)), 2)

    def test_the_weakest_cut_around_the_first_mark(self):
        net = ("net", ("a", "b", "c"), ((0, 1, 1), (1, 2, 1), (1, 2, 1), (1, 2, 1)))
        self.paper(net, 1)

    def test_trees_and_rings(self):
        self.paper(drawn_net(random.Random(44), 16, 0, 9), 1)
        self.paper(("net", NAMES, tuple((mark, (mark + 1) % 16, 5) for mark in range(16))), 2)

    def test_two_marks_with_many_readings(self):
        for many in (1, 2, 3, 79, 80):
            net = ("net", ("a", "b"), tuple((n % 2, 1 - n % 2, n) for n in range(many)))
            self.paper(net, many)

    def test_all_marks_with_all_others(self):
        net = ("net", NAMES[:12], tuple((one, other, 0) for other in range(12) for one in range(other)))
        self.paper(net, 11)

    def test_against_all_sides(self):
        for net in small_nets(45, 80, most_marks=6, most_readings=16):
            sizes = [len(cut_by_hand(net, side)) for side in all_sides(net)]
            if sizes:
                self.paper(net, min(sizes))

    def test_nets_at_the_bounds(self):
        for net in edge_nets(46):
            self.paper(net)

    def test_greater_nets(self):
        draw = random.Random(47)
        for _ in range(20):
            self.paper(drawn_net(draw, draw.randint(7, 16), draw.randint(20, 80), 9))


if __name__ == "__main__":
    unittest.main()
