"""truelevels.near: e5 and e6."""

import random
import unittest

from helpers import (LONE, NAMES, PAIR, RING, TRIANGLE, best_by_search, drawn_net, edge_nets, is_plain, kept_values,
                     small_nets, strength_by_sides)
from truelevels.adjust import best_paper
from truelevels.cuts import strength
from truelevels.near import bound, doubts, far_apart, is_near

MILLION = 1000000
# Two marks with many readings, and three that hang together by six each.
TWO = ("net", ("a", "b"), tuple((n % 2, 1 - n % 2, 0) for n in range(7)))
THREE = ("net", NAMES[:3], ((0, 1, 0), (1, 2, 0), (2, 0, 0)) * 3)


def bound_by_hand(net, k, r, size):
    """The bound of a net with this strength."""
    if len(net[1]) == 1:
        return 0
    if size < 2 * k + 1:
        return -1
    return 2 * r * len(net[2]) // (size - 2 * k)


def many_missing(net, heights, most):
    """The indices of the readings that miss by more than most."""
    sizes = [abs(value - heights[end] + heights[start]) for start, end, value in net[2]]
    return tuple(index for index, size in enumerate(sizes) if size > most)


def with_noise(draw, net, heights, k, r, most):
    """The net with values by which just k readings (or all, if less) miss by more than r, all others by at most r."""
    rows = []
    lying = draw.sample(range(len(net[2])), min(k, len(net[2])))
    for index, (start, end, value) in enumerate(kept_values(net, heights)[2]):
        miss = draw.randint(-r, r)
        if index in lying:
            miss = draw.choice((-1, 1)) * draw.randint(r + 1, r + most)
        rows.append((start, end, value + miss))
    return (net[0], net[1], tuple(rows))


class Bound(unittest.TestCase):
    def has(self, net, k, r, told):
        self.assertEqual(bound(net, k, r), told, (net, k, r))
        self.assertTrue(is_plain(bound(net, k, r)))

    def test_one_mark(self):
        for k in (0, 1, 2, 99):
            for r in (0, 1, 2, MILLION):
                self.has(LONE, k, r, 0)

    def test_hand_made_nets(self):
        self.has(PAIR, 1, 2, 12)
        self.has(PAIR, 2, 2, -1)
        self.has(PAIR, 0, 2, 4)
        self.has(PAIR, 0, 1, 2)
        self.has(RING, 0, 3, 15)
        self.has(RING, 1, 3, -1)
        self.has(TWO, 1, 3, 8)
        self.has(TWO, 2, 3, 14)
        self.has(TWO, 3, 3, 42)
        self.has(TWO, 4, 3, -1)

    def test_the_bound_is_rounded_down(self):
        # 2 r m is 2 * 9 r, s - 2 k is 6, 4, 2.
        self.has(THREE, 0, 1, 3)
        self.has(THREE, 1, 1, 4)
        self.has(THREE, 2, 1, 9)
        self.has(THREE, 1, 3, 13)
        self.has(TWO, 1, 1, 2)

    def test_no_noise(self):
        for net in (PAIR, TRIANGLE, RING, THREE):
            self.has(net, 0, 0, 0)
        self.has(PAIR, 1, 0, 0)
        self.has(PAIR, 2, 0, -1)
        self.has(RING, 1, 0, -1)

    def test_against_all_sides(self):
        for net in small_nets(230, 60, most_marks=5, most_readings=16):
            size = strength_by_sides(net)
            for k in range(5):
                for r in (0, 1, 2, 7, MILLION):
                    self.has(net, k, r, bound_by_hand(net, k, r, size))

    def test_nets_at_the_bounds(self):
        for net in edge_nets(231):
            for k in (0, 1, 2, 4, 5, 39, 40):
                for r in (0, 3, MILLION):
                    self.has(net, k, r, bound_by_hand(net, k, r, strength(net)))


class IsNear(unittest.TestCase):
    def test_just_k_readings_one_more_and_one_less(self):
        # By (0, 0) the readings miss by 7, -7 and 9.
        for r, many in ((0, 3), (6, 3), (7, 1), (8, 1), (9, 0), (10, 0)):
            for k in range(5):
                self.assertIs(is_near(PAIR, k, r, (0, 0)), many <= k, (k, r))

    def test_misses_of_just_r(self):
        self.assertIs(is_near(PAIR, 0, 2, (0, 7)), True)
        self.assertIs(is_near(PAIR, 0, 1, (0, 7)), False)
        self.assertIs(is_near(PAIR, 0, 2, (0, 9)), True)
        self.assertIs(is_near(PAIR, 1, 1, (0, 9)), False)
        self.assertIs(is_near(PAIR, 2, 1, (0, 9)), True)

    def test_one_mark(self):
        for k in (0, 3):
            for r in (0, 3):
                self.assertIs(is_near(LONE, k, r, (0,)), True)

    def test_against_sums(self):
        draw = random.Random(232)
        for net in small_nets(232, 100, most_marks=5, most_readings=12) + edge_nets(232):
            reach = 3 if len(net[1]) < 6 else MILLION
            for _ in range(3):
                heights = (0,) + tuple(draw.randint(-reach, reach) for _ in net[1][1:])
                for r in (0, 1, 2, reach):
                    many = len(many_missing(net, heights, r))
                    for k in (0, many - 1, many, many + 1):
                        if k >= 0:
                            self.assertIs(is_near(net, k, r, heights), many <= k)


class FarApart(unittest.TestCase):
    def test_hand_made_heights(self):
        self.assertEqual(far_apart((0, 7), (0, 7)), 0)
        self.assertEqual(far_apart((0, 7), (0, 9)), 2)
        self.assertEqual(far_apart((0, 9), (0, 7)), 2)
        self.assertEqual(far_apart((0, 7, -3), (0, 9, -8)), 7)
        self.assertEqual(far_apart((0, 1, 2), (0, 5, 9)), 7)
        self.assertEqual(far_apart((0, 5, 9), (0, 1, 2)), 7)

    def test_the_difference_of_the_first_mark_counts(self):
        self.assertEqual(far_apart((0, 1, 2), (0, 6, 8)), 6)
        self.assertEqual(far_apart((0, -6, -8), (0, -1, -2)), 6)
        self.assertEqual(far_apart((3, 1), (5, 3)), 0)
        self.assertEqual(far_apart((3, 1), (5, 4)), 1)

    def test_one_mark(self):
        self.assertEqual(far_apart((0,), (0,)), 0)
        self.assertEqual(far_apart((-4,), (9,)), 0)

    def test_drawn_heights(self):
        draw = random.Random(233)
        for _ in range(300):
            many = draw.randint(1, 16)
            first = (0,) + tuple(draw.randint(-9, 9) for _ in range(many - 1))
            second = (0,) + tuple(draw.randint(-9, 9) for _ in range(many - 1))
            apart = [abs((second[i] - first[i]) - (second[j] - first[j])) for i in range(many) for j in range(many)]
            self.assertEqual(far_apart(first, second), max(apart))
            self.assertTrue(is_plain(far_apart(first, second)))
            self.assertEqual(far_apart(first, first), 0)


class BestHeightsLieWithinTheBound(unittest.TestCase):
    def test_small_nets_all_best_heights(self):
        draw = random.Random(234)
        seen = set()
        for net in [TWO, THREE, PAIR] + small_nets(234, 80, most_marks=3, most_readings=9):
            for k in (0, 1, 2):
                for r in (0, 1):
                    most = bound_by_hand(net, k, r, strength_by_sides(net))
                    heights = (0,) + tuple(draw.randint(-2, 2) for _ in net[1][1:])
                    told = with_noise(draw, net, heights, k, r, 4)
                    self.assertIs(is_near(told, k, r, heights), True)
                    if most >= 0:
                        for best in best_by_search(told, 9):
                            self.assertLessEqual(far_apart(heights, best), most)
                            seen.add((k, r, far_apart(heights, best) > 0))
        self.assertEqual(seen, {(0, 0, False), (1, 0, False), (2, 0, False), (0, 1, False), (0, 1, True),
                                (1, 1, False), (1, 1, True), (2, 1, False), (2, 1, True)})

    def test_greater_nets(self):
        draw = random.Random(235)
        nets = edge_nets(235) + [drawn_net(draw, 9, 60, 9) for _ in range(10)]
        for net in nets:
            heights = (0,) + tuple(draw.randint(-9999, 9999) for _ in net[1][1:])
            for k in (0, 1, 2, 3):
                for r in (0, 5, 1000):
                    told = with_noise(draw, net, heights, k, r, MILLION // 2)
                    if bound(told, k, r) >= 0:
                        best = best_paper(told)[1]
                        self.assertLessEqual(far_apart(heights, best), bound(told, k, r))
                        if r == 0:
                            self.assertEqual(best, heights)


class Doubts(unittest.TestCase):
    def test_without_a_bound(self):
        self.assertEqual(doubts(PAIR, 2, 0, (0, 0)), ())
        self.assertEqual(doubts(RING, 1, 0, (0, 100, -100, 100)), ())
        self.assertEqual(doubts(RING, 9, 3, (0, 100, -100, 100)), ())

    def test_one_mark(self):
        for k in (0, 5):
            self.assertEqual(doubts(LONE, k, 2, (0,)), ())

    def test_hand_made_nets(self):
        # With r 0 the bound is 0, and all that lie by the heights are told.
        self.assertEqual(doubts(PAIR, 1, 0, (0, 7)), (2,))
        self.assertEqual(doubts(PAIR, 0, 0, (0, 8)), (0, 1, 2))
        # With k 0 and r 1 the bound is 2 * 3 // 3, and so misses above 3 count.
        net = ("net", ("a", "b"), ((0, 1, 0), (1, 0, -3), (0, 1, 4), (0, 1, -3), (1, 0, 4), (0, 1, 0)))
        self.assertEqual(bound(net, 0, 1), 2)
        self.assertEqual(doubts(net, 0, 1, (0, 0)), (2, 4))

    def test_misses_that_are_just_as_great(self):
        # k 1, r 2: the bound is 12, so misses of 15 are told, those of 14 are not.
        for value, told in ((14, ()), (15, (2,)), (-14, ()), (-15, (2,)), (16, (2,))):
            for start, end in ((0, 1), (1, 0)):
                net = ("net", ("a", "b"), ((0, 1, 0), (1, 0, 0), (start, end, value)))
                self.assertEqual(bound(net, 1, 2), 12)
                self.assertEqual(doubts(net, 1, 2, (0, 0)), told)

    def test_against_sums(self):
        draw = random.Random(236)
        for net in small_nets(236, 100, most_marks=4, most_readings=14, most=40) + edge_nets(236):
            heights = (0,) + tuple(draw.randint(-40, 40) for _ in net[1][1:])
            for k in (0, 1, 2):
                for r in (0, 1, 3):
                    most = bound_by_hand(net, k, r, strength(net))
                    told = doubts(net, k, r, heights)
                    self.assertEqual(told, () if most < 0 else many_missing(net, heights, r + most))
                    self.assertTrue(type(told) is tuple and all(map(is_plain, told)))

    def test_what_is_doubted_lies_whatever_the_true_heights_are(self):
        draw = random.Random(237)
        seen = set()
        nets = [TWO, THREE] + [drawn_net(draw, draw.randint(2, 6), draw.randint(8, 40), 9) for _ in range(60)]
        for net in nets + edge_nets(237):
            heights = (0,) + tuple(draw.randint(-999, 999) for _ in net[1][1:])
            for k in (0, 1, 2, 3):
                for r in (0, 1, 4):
                    told = with_noise(draw, net, heights, k, r, 5000)
                    found = doubts(told, k, r, best_paper(told)[1])
                    self.assertTrue(set(found) <= set(many_missing(told, heights, r)), (told, k, r))
                    seen.add((k > 0, len(found) > 0))
        self.assertEqual(seen, {(False, False), (True, False), (True, True)})


if __name__ == "__main__":
    unittest.main()
