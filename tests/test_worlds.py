"""truelevels.worlds: v1 to v6."""

import itertools
import random
import unittest
from unittest import mock

import truelevels.worlds
from helpers import (LONE, NAMES, PAIR, RING, TRIANGLE, all_heights, all_sides, best_by_search, cut_by_hand, drawn_net,
                     edge_nets, is_good_side, is_plain, kept_values, lies_by_hand, small_nets, strength_by_sides,
                     sum_of_misses, with_lies)
from truelevels.adjust import best_paper
from truelevels.cuts import strength
from truelevels.errors import BadState
from truelevels.spans import is_one
from truelevels.worlds import is_safe, is_world, most_lies, twins, verdicts, worlds

MILLION = 1000000


def worlds_by_search(net, k, reach):
    """All worlds with k lies by a search over all heights up to reach in size."""
    return tuple(sorted(heights for heights in all_heights(net, reach) if len(lies_by_hand(net, heights)) <= k))


def worlds_by_trees(net, k):
    """All worlds with k lies, by the heights that each set of one reading less than marks tells.

    If the strength is above k, the readings that a world keeps join all marks, and so some of these sets does.
    """
    found = set()
    for rows in itertools.combinations(net[2], len(net[1]) - 1):
        heights = {0: 0}
        for _ in rows:
            for start, end, value in rows:
                if start in heights:
                    heights.setdefault(end, heights[start] + value)
                elif end in heights:
                    heights.setdefault(start, heights[end] - value)
        if len(heights) == len(net[1]):
            found.add(tuple(heights[mark] for mark in range(len(net[1]))))
    return tuple(sorted(heights for heights in found if len(lies_by_hand(net, heights)) <= k))


def words_by_hand(net, found):
    """The words for the readings of a net with these worlds."""
    if not found:
        return ()
    lying = [lies_by_hand(net, heights) for heights in found]
    counts = [sum(index in row for row in lying) for index in range(len(net[2]))]
    return tuple("kept" if not count else "lies" if count == len(found) else "open" for count in counts)


class WithWorlds(unittest.TestCase):
    def has(self, net, k, found):
        told = worlds(net, k)
        self.assertEqual(told, found, (net, k))
        self.assertIs(type(told), tuple)
        for heights in told:
            self.assertIs(type(heights), tuple)
            self.assertTrue(all(map(is_plain, heights)))
        self.assertEqual(verdicts(net, k), words_by_hand(net, found), (net, k))

    def refused(self, net, k):
        for function in (worlds, verdicts):
            with self.assertRaises(BadState):
                function(net, k)


class TestingWorlds(unittest.TestCase):
    def test_heights_with_just_k_lies_and_with_one_more_or_less(self):
        draw = random.Random(70)
        for net in small_nets(70, 60, most_marks=7, most_readings=16, most=MILLION) + edge_nets(70):
            heights = (0,) + tuple(draw.randint(-MILLION, MILLION) for _ in net[1][1:])
            for many in (0, 1, 2, len(net[2]) // 2, len(net[2])):
                told = with_lies(draw, net, heights, many, MILLION)
                count = len(lies_by_hand(told, heights))
                self.assertIs(is_world(told, count, heights), True)
                self.assertIs(is_world(told, count + 1, heights), True)
                if count:
                    self.assertIs(is_world(told, count - 1, heights), False)

    def test_k_0(self):
        self.assertIs(is_world(TRIANGLE, 0, (0, 4, 9)), True)
        self.assertIs(is_world(TRIANGLE, 0, (0, 4, 8)), False)
        self.assertIs(is_world(PAIR, 0, (0, 7)), False)

    def test_k_beyond_the_number_of_readings(self):
        for k in (3, 4, 80, 10 ** 9):
            self.assertIs(is_world(PAIR, k, (0, 123)), True)
        self.assertIs(is_world(PAIR, 2, (0, 123)), False)

    def test_one_mark(self):
        for k in (0, 1, 99):
            self.assertIs(is_world(LONE, k, (0,)), True)


class AllWorlds(WithWorlds):
    def test_one_mark(self):
        for k in (0, 1, 2, 80, 81, 10 ** 9):
            self.has(LONE, k, ((0,),))
            self.assertEqual(verdicts(LONE, k), ())

    def test_hand_made_nets(self):
        self.has(PAIR, 0, ())
        self.has(PAIR, 1, ((0, 7),))
        self.has(PAIR, 2, ((0, 7), (0, 9)))
        self.has(TRIANGLE, 0, ((0, 4, 9),))
        self.has(TRIANGLE, 1, ((0, 4, 9),))
        net = ("net", ("a", "b", "c"), ((0, 1, 7), (1, 2, 3), (2, 0, -9)))
        self.has(net, 0, ())
        self.has(net, 1, ((0, 6, 9), (0, 7, 9), (0, 7, 10)))

    def test_verdicts(self):
        self.assertEqual(verdicts(PAIR, 0), ())
        self.assertEqual(verdicts(PAIR, 1), ("kept", "kept", "lies"))
        self.assertEqual(verdicts(PAIR, 2), ("open", "open", "open"))
        self.assertEqual(verdicts(TRIANGLE, 1), ("kept",) * 4)
        net = ("net", ("a", "b"), ((0, 1, 7), (0, 1, 7), (1, 0, -5), (0, 1, 5), (0, 1, 6)))
        self.assertEqual(verdicts(net, 3), ("open", "open", "open", "open", "lies"))
        net = ("net", ("a", "b", "c"), ((0, 1, 7), (1, 0, -7), (0, 1, 7), (1, 2, 3), (2, 1, -4), (1, 2, 3), (2, 1, -4)))
        self.assertEqual(verdicts(net, 2), ("kept", "kept", "kept", "open", "open", "open", "open"))

    def test_in_ascending_order(self):
        net = ("net", ("a", "b"), tuple((0, 1, value) for value in (3, -5, 20, 0, -7, 100)))
        self.has(net, 5, ((0, -7), (0, -5), (0, 0), (0, 3), (0, 20), (0, 100)))
        self.has(net, 4, ())

    def test_a_mark_all_of_whose_readings_from_the_first_mark_lie(self):
        net = ("net", ("a", "b", "c"), ((0, 1, 5), (0, 1, 6), (1, 2, 1), (1, 2, 1), (2, 1, -1), (0, 2, 9), (0, 2, 9),
                                        (2, 0, -9), (0, 2, 9)))
        self.has(net, 2, ((0, 8, 9),))
        self.refused(net, 5)

    def test_small_nets_against_a_search_over_all_heights(self):
        seen = set()
        for net in small_nets(71, 200, most_marks=3, most_readings=8, most=2):
            for k in range(max(1, strength_by_sides(net))):
                found = worlds_by_search(net, k, 4)
                seen.add(len(found))
                self.has(net, k, found)
        self.assertTrue({0, 1, 2, 3} <= seen)

    def test_small_nets_against_what_trees_of_readings_tell(self):
        seen = set()
        for most in (1, 3, MILLION):
            for net in small_nets(72, 80, most_marks=5, most_readings=10, most=most):
                for k in range(max(1, strength_by_sides(net))):
                    found = worlds_by_trees(net, k)
                    seen.add(len(found))
                    self.has(net, k, found)
        self.assertTrue({0, 1, 2, 3} <= seen)

    def test_a_few_lies_by_anything(self):
        draw = random.Random(73)
        for net in small_nets(73, 60, most_marks=5, most_readings=10):
            heights = (0,) + tuple(draw.randint(-MILLION, MILLION) for _ in net[1][1:])
            for k in range(strength_by_sides(net)):
                told = with_lies(draw, net, heights, k, MILLION)
                self.assertIn(heights, worlds(told, k))
                self.has(told, k, worlds_by_trees(told, k))

    def test_the_strength_must_be_above_k(self):
        for net in small_nets(74, 80, most_marks=5, most_readings=12) + [PAIR, TRIANGLE, RING]:
            size = strength_by_sides(net)
            if size > 0:
                worlds(net, size - 1)
                verdicts(net, size - 1)
                for k in (size, size + 1, len(net[2]) + 1, 10 ** 9):
                    self.refused(net, k)

    def test_many_worlds(self):
        for many in (79, 80):
            net = ("net", ("a", "b"), tuple((n % 2, 1 - n % 2, 3 * n) for n in range(many)))
            found = tuple(sorted((0, 3 * n * (-1) ** n) for n in range(many)))
            self.has(net, many - 1, found)
            self.has(net, many - 2, ())

    def test_200_worlds_are_let_and_more_are_refused(self):
        for many in (200, 201, 202, 240):
            net = ("net", ("a", "b"), tuple((0, 1, n) for n in range(many)))
            if many <= 200:
                self.has(net, many - 1, tuple((0, n) for n in range(many)))
            else:
                self.refused(net, many - 1)
                self.has(net, many - 2, ())

    def test_the_bound_on_the_number_of_worlds_within_the_bounds_of_a_net(self):
        ring = ("net", NAMES, tuple((mark, (mark + 1) % 16, 1) for mark in range(16)))
        nets = [(ring, 1, 16), (PAIR, 2, 2), (("net", ("a", "b"), tuple((0, 1, n) for n in range(30))), 29, 30)]
        for net, k, many in nets:
            with mock.patch.object(truelevels.worlds, "MOST_WORLDS", many):
                self.assertEqual(len(worlds(net, k)), many)
                self.assertEqual(len(verdicts(net, k)), len(net[2]))
            with mock.patch.object(truelevels.worlds, "MOST_WORLDS", many - 1):
                self.refused(net, k)

    def test_a_ring_that_does_not_close(self):
        ring = ("net", NAMES, tuple((mark, (mark + 1) % 16, 1) for mark in range(16)))
        self.has(ring, 0, ())
        found = tuple(sorted(tuple(mark if mark <= lie else mark - 16 for mark in range(16)) for lie in range(16)))
        self.has(ring, 1, found)
        self.refused(ring, 2)

    def test_nets_at_the_bounds(self):
        draw = random.Random(75)
        for net in edge_nets(75):
            size = strength(net)
            heights = (0,) + tuple(draw.randint(-MILLION, MILLION) for _ in net[1][1:])
            for k in (0, 1, (size - 1) // 2):
                told = with_lies(draw, net, heights, k, MILLION)
                if size >= 2 * k + 1:
                    self.has(told, k, (heights,))
            for k in range(size):
                told = with_lies(draw, net, heights, k, MILLION)
                found = worlds(told, k)
                self.assertIn(heights, found)
                self.assertEqual(found, tuple(sorted(set(found))))
                self.assertTrue(all(len(lies_by_hand(told, row)) <= k for row in found))
                self.assertEqual(verdicts(told, k), words_by_hand(told, found))


class Safety(unittest.TestCase):
    def test_one_mark(self):
        for k in (0, 1, 80, 10 ** 9):
            self.assertIs(is_safe(LONE, k), True)
            self.assertEqual(twins(LONE, k), ())
        self.assertEqual(most_lies(LONE), -1)

    def test_hand_made_nets(self):
        for net, most in ((PAIR, 1), (TRIANGLE, 0), (RING, 0)):
            self.assertEqual(most_lies(net), most)
            self.assertIs(is_safe(net, most), True)
            self.assertIs(is_safe(net, most + 1), False)

    def test_against_all_sides(self):
        for net in small_nets(76, 120, most_marks=6, most_readings=24):
            if len(net[1]) > 1:
                size = strength_by_sides(net)
                for k in range(size + 2):
                    self.assertIs(is_safe(net, k), 2 * k + 1 <= size, (net, k))
                most = most_lies(net)
                self.assertIs(type(most), int)
                self.assertTrue(2 * most + 1 <= size < 2 * (most + 1) + 1, (net, most))

    def test_each_joined_net_is_safe_against_none(self):
        for net in small_nets(77, 40, most_marks=8, most_readings=0) + edge_nets(77):
            self.assertIs(is_safe(net, 0), True)
            self.assertEqual(twins(net, 0), ())

    def test_many_readings(self):
        for many, most in ((1, 0), (2, 0), (3, 1), (79, 39), (80, 39)):
            net = ("net", ("a", "b"), tuple((n % 2, 1 - n % 2, n) for n in range(many)))
            self.assertEqual(most_lies(net), most)
            self.assertIs(is_safe(net, most), True)
            self.assertIs(is_safe(net, most + 1), False)
            self.assertIs(is_safe(net, 10 ** 9), False)

    def test_a_safe_net_has_one_world_and_one_tuple_of_best_heights(self):
        draw = random.Random(78)
        seen = set()
        for net in small_nets(78, 150, most_marks=6, most_readings=30) + edge_nets(78):
            for k in range(most_lies(net) + 1):
                seen.add(k)
                for most in (1, 9, MILLION):
                    heights = (0,) + tuple(draw.randint(-most, most) for _ in net[1][1:])
                    for many in {0, k // 2, k}:
                        told = with_lies(draw, net, heights, many, most)
                        self.assertEqual(worlds(told, k), (heights,))
                        self.assertEqual(best_paper(told)[1], heights)
                        self.assertIs(is_one(told), True)
        self.assertTrue({0, 1, 2, 3} <= seen)

    def test_a_safe_net_by_a_search(self):
        draw = random.Random(79)
        for net in small_nets(79, 60, most_marks=3, most_readings=9):
            for k in range(most_lies(net) + 1):
                heights = (0,) + tuple(draw.randint(-2, 2) for _ in net[1][1:])
                told = with_lies(draw, net, heights, k, 3)
                self.assertEqual(best_by_search(told, 6), [heights])
                self.assertEqual(worlds_by_search(told, k, 6), (heights,))


class Twins(unittest.TestCase):
    def right(self, net, k):
        """Check the twins of a net that is not safe against k."""
        told = twins(net, k)
        self.assertEqual((type(told), len(told)), (tuple, 4))
        side, twin, first, second = told
        self.assertTrue(is_good_side(net, side), (net, side))
        cut = cut_by_hand(net, side)
        self.assertLessEqual(len(cut), 2 * k)
        self.assertEqual(first, (0,) * len(net[1]))
        self.assertEqual(second, tuple(int(mark in side) for mark in range(len(net[1]))))
        self.assertTrue(all(map(is_plain, first + second)))
        values = [0] * len(net[2])
        for index in cut[:k]:
            values[index] = 1 if net[2][index][1] in side else -1
        rows = tuple((start, end, value) for (start, end, _), value in zip(net[2], values))
        self.assertEqual(twin, ("net", net[1], rows))
        self.assertTrue(all(map(is_plain, values)))
        self.assertLessEqual(len(lies_by_hand(twin, first)), k)
        self.assertLessEqual(len(lies_by_hand(twin, second)), k)
        self.assertNotEqual(first, second)
        self.assertIs(is_world(twin, k, first) and is_world(twin, k, second), True)
        self.assertLessEqual(sum_of_misses(twin, second), sum_of_misses(twin, first))

    def test_hand_made_nets(self):
        self.assertEqual(twins(PAIR, 1), ())
        self.assertEqual(twins(PAIR, 2),
                         ((1,), ("net", ("a", "b"), ((0, 1, 1), (1, 0, -1), (0, 1, 0))), (0, 0), (0, 1)))
        self.assertEqual(twins(PAIR, 3)[1], ("net", ("a", "b"), ((0, 1, 1), (1, 0, -1), (0, 1, 1))))
        self.assertEqual(twins(PAIR, 9), twins(PAIR, 3))
        self.assertEqual(twins(TRIANGLE, 1),
                         ((2,), ("net", ("a", "b", "c"), ((0, 1, 0), (1, 0, 0), (1, 2, 1), (2, 0, 0))), (0, 0, 0),
                          (0, 0, 1)))

    def test_just_where_a_net_is_not_safe(self):
        for net in small_nets(80, 120, most_marks=6, most_readings=20, most=MILLION) + [PAIR, TRIANGLE, RING, LONE]:
            size = strength_by_sides(net)
            for k in (0, 1, 2, 3, 4, len(net[2]), len(net[2]) + 1, 10 ** 9):
                if len(net[1]) == 1 or size >= 2 * k + 1:
                    self.assertEqual(twins(net, k), ())
                else:
                    self.right(net, k)

    def test_nets_at_the_bounds(self):
        for net in edge_nets(81):
            for k in range(strength(net) // 2 + 1, 12):
                if not is_safe(net, k):
                    self.right(net, k)
            self.right(net, 80)

    def test_twins_have_several_best_heights_or_another_one_than_all_0(self):
        for net in small_nets(82, 60, most_marks=3, most_readings=6):
            k = most_lies(net) + 1
            if k > 0:
                _, twin, first, _ = twins(net, k)
                self.assertNotEqual(best_by_search(twin, 2), [first])

    def test_both_are_among_all_worlds(self):
        for net in small_nets(83, 60, most_marks=5, most_readings=16):
            size = strength_by_sides(net)
            for k in range((size + 1) // 2, size):
                if size < 2 * k + 1:
                    _, twin, first, second = twins(net, k)
                    self.assertTrue({first, second} <= set(worlds(twin, k)))

    def test_no_side_has_a_smaller_cut_in_a_safe_net(self):
        for net in small_nets(84, 40, most_marks=5, most_readings=16):
            for k in range(most_lies(net) + 1):
                self.assertEqual(twins(net, k), ())
                self.assertTrue(all(len(cut_by_hand(net, side)) > 2 * k for side in all_sides(net)))


class BestHeights(unittest.TestCase):
    def stay_best(self, net, heights, price):
        """Check that heights are best, and cost so much."""
        self.assertEqual(sum_of_misses(net, heights), price)
        self.assertEqual(sum_of_misses(net, best_paper(net)[1]), price)

    def test_a_lie_that_is_moved_further_away(self):
        draw = random.Random(85)
        for most in (2, 9, 1000):
            for net in small_nets(85, 40, most_marks=6, most_readings=14, most=most):
                heights = best_paper(net)[1]
                price = sum_of_misses(net, heights)
                for index in lies_by_hand(net, heights):
                    start, end, value = net[2][index]
                    away = 1 if value > heights[end] - heights[start] else -1
                    for by in (1, draw.randint(2, 99), MILLION - 1000):
                        moved = (start, end, value + away * by)
                        self.stay_best((net[0], net[1], net[2][:index] + (moved,) + net[2][index + 1:]), heights,
                                       price + by)

    def test_further_readings_that_they_keep(self):
        draw = random.Random(86)
        for net in small_nets(86, 60, most_marks=6, most_readings=14, most=9):
            if len(net[1]) > 1:
                heights = best_paper(net)[1]
                more = list(net[2])
                for _ in range(draw.randint(1, 5)):
                    start, end = draw.sample(range(len(net[1])), 2)
                    more.insert(draw.randint(0, len(more)), (start, end, heights[end] - heights[start]))
                self.stay_best((net[0], net[1], tuple(more)), heights, sum_of_misses(net, heights))

    def test_by_a_search(self):
        for net in small_nets(87, 40, most_marks=3, most_readings=6):
            heights = best_paper(net)[1]
            for index in lies_by_hand(net, heights):
                start, end, value = net[2][index]
                away = 1 if value > heights[end] - heights[start] else -1
                moved = net[2][:index] + ((start, end, value + 2 * away),) + net[2][index + 1:]
                self.assertIn(heights, best_by_search((net[0], net[1], moved), 9))


class Helpers(unittest.TestCase):
    def test_the_values_that_heights_keep(self):
        draw = random.Random(88)
        net = drawn_net(draw, 5, 9, 9)
        self.assertEqual(lies_by_hand(kept_values(net, (0, 5, -3, 2, 9)), (0, 5, -3, 2, 9)), ())
        self.assertEqual(len(lies_by_hand(with_lies(draw, net, (0, 5, -3, 2, 9), 4, 9), (0, 5, -3, 2, 9))), 4)


if __name__ == "__main__":
    unittest.main()
