"""truelevels.rings: e1 to e4."""

import itertools
import random
import unittest
from math import comb

from helpers import (LONE, NAMES, PAIR, RING, TRIANGLE, all_closings, all_heights, all_sides, cut_by_hand, drawn_net,
                     edge_nets, is_made_of_tuples, kept_values, lies_by_hand, rings_of, small_nets, strength_by_sides,
                     with_lies)
from truelevels.errors import BadState
from truelevels.rings import are_seen, closing, closings, explanations, is_ring, rings

MILLION = 1000000
# A tree of readings, so no ring.
PATH = ("net", NAMES[:4], ((1, 0, 5), (1, 2, 3), (3, 2, 8)))


def tree_by_hand(net):
    """The readings that find marks, each with the mark that it finds and the one before it."""
    order = [0]
    finders = {}
    for mark in order:
        for index, (start, end, _) in enumerate(net[2]):
            for here, there in ((start, end), (end, start)):
                if here == mark and there not in order:
                    order.append(there)
                    finders[index] = (there, mark)
    return finders


def rings_by_search(net):
    """The rings of the net, each found among all of its rings."""
    finders = tree_by_hand(net)
    every = rings_of(net)
    told = []
    for index in range(len(net[2])):
        if index not in finders:
            found = [ring for ring in every if ring[0] == (index, 1) and all(pair[0] in finders for pair in ring[1:])]
            assert len(found) == 1
            told.append(found[0])
    return tuple(told)


def ring_is_right(net, ring):
    """True for a ring, by going over it."""
    at = [net[2][index][:2][::way] for index, way in ring]
    for (_, there), (here, _) in zip(at, at[1:] + at[:1]):
        if there != here:
            return False
    marks = [here for here, _ in at]
    return len(ring) > 1 and len(set(marks)) == len(marks) and len({index for index, _ in ring}) == len(ring)


def turned(ring):
    """The same ring, gone the other way round."""
    return tuple((index, -way) for index, way in ring[::-1])


def explains(net, chosen):
    """True if there are values for these readings with which all rings close with 0: heights that keep all others."""
    heights = {}
    for first in range(len(net[1])):
        if first not in heights:
            heights[first] = 0
            walk = [first]
            for mark in walk:
                for index, (start, end, value) in enumerate(net[2]):
                    for here, there, rise in ((start, end, value), (end, start, -value)):
                        if index not in chosen and here == mark and there not in heights:
                            heights[there] = heights[mark] + rise
                            walk.append(there)
    rest = [reading for index, reading in enumerate(net[2]) if index not in chosen]
    return all(heights[end] - heights[start] == value for start, end, value in rest)


def explanations_by_search(net, k):
    """All least explanations with at most k readings, by all sets."""
    found = []
    for many in range(min(k, len(net[2])) + 1):
        for chosen in itertools.combinations(range(len(net[2])), many):
            if not any(set(less) <= set(chosen) for less in found) and explains(net, chosen):
                found.append(chosen)
    return tuple(found)


class IsRing(unittest.TestCase):
    def test_two_readings_between_two_marks_in_every_direction(self):
        for first, second in itertools.product(((0, 1), (1, 0)), repeat=2):
            net = ("net", ("a", "b"), (first + (5,), second + (7,)))
            for ways in itertools.product((1, -1), repeat=2):
                there = first[::ways[0]]
                back = second[::ways[1]]
                for ring in (((0, ways[0]), (1, ways[1])), ((1, ways[1]), (0, ways[0]))):
                    self.assertIs(is_ring(net, ring), there == back[::-1], (net, ring))

    def test_rings_of_three_marks_and_more_begun_elsewhere_and_turned(self):
        for net, ring in ((TRIANGLE, ((0, 1), (2, 1), (3, 1))), (TRIANGLE, ((1, -1), (2, 1), (3, 1))),
                          (RING, ((0, 1), (1, 1), (2, -1), (3, 1))), (RING, ((4, 1), (1, -1), (0, -1))),
                          (RING, ((4, 1), (2, -1), (3, 1)))):
            for turn in range(len(ring)):
                begun = ring[turn:] + ring[:turn]
                self.assertIs(is_ring(net, begun), True, (net, begun))
                self.assertIs(is_ring(net, turned(begun)), True, (net, begun))

    def test_the_empty_tuple_and_one_pair_are_none(self):
        for net in (LONE, PAIR, RING):
            self.assertIs(is_ring(net, ()), False)
        for net in (PAIR, TRIANGLE, RING):
            for index in range(len(net[2])):
                for way in (1, -1):
                    self.assertIs(is_ring(net, ((index, way),)), False)

    def test_a_reading_twice(self):
        self.assertIs(is_ring(PAIR, ((0, 1), (0, -1))), False)
        self.assertIs(is_ring(PAIR, ((0, -1), (0, 1))), False)
        self.assertIs(is_ring(PAIR, ((0, 1), (0, 1))), False)
        self.assertIs(is_ring(TRIANGLE, ((0, 1), (2, 1), (3, 1), (0, 1), (2, 1), (3, 1))), False)

    def test_a_mark_come_to_twice(self):
        # Two rings that have the mark b alone in common, gone over one after the other.
        net = ("net", NAMES[:3], ((0, 1, 1), (1, 2, 1), (2, 1, 1), (1, 0, 1)))
        self.assertIs(is_ring(net, ((0, 1), (1, 1), (2, 1), (3, 1))), False)
        self.assertIs(is_ring(net, ((1, 1), (2, 1), (3, 1), (0, 1))), False)
        self.assertIs(is_ring(net, ((0, 1), (3, 1))), True)
        self.assertIs(is_ring(net, ((1, 1), (2, 1))), True)
        four = ("net", ("a", "b"), ((0, 1, 1), (1, 0, 1), (0, 1, 1), (1, 0, 1)))
        self.assertIs(is_ring(four, ((0, 1), (1, 1), (2, 1), (3, 1))), False)

    def test_a_step_that_does_not_go_on(self):
        self.assertIs(is_ring(RING, ((0, 1), (2, -1), (1, 1), (3, 1))), False)
        self.assertIs(is_ring(RING, ((0, 1), (1, -1), (2, -1), (3, 1))), False)
        self.assertIs(is_ring(RING, ((0, -1), (1, 1), (2, -1), (3, 1))), False)

    def test_a_last_step_that_does_not_come_to_where_the_first_one_begins(self):
        self.assertIs(is_ring(RING, ((0, 1), (1, 1))), False)
        self.assertIs(is_ring(RING, ((0, 1), (1, 1), (2, -1))), False)
        self.assertIs(is_ring(RING, ((3, 1), (0, 1), (1, 1))), False)
        self.assertIs(is_ring(PATH, ((0, -1), (1, 1), (2, -1))), False)

    def test_against_all_rings(self):
        for net in small_nets(210, 40, most_marks=4, most_readings=5):
            every = set(rings_of(net))
            pairs = list(itertools.product(range(len(net[2])), (1, -1)))
            for many in range(min(len(net[2]), 4) + 1):
                for ring in itertools.product(pairs, repeat=many):
                    self.assertIs(is_ring(net, ring), ring in every, (net, ring))

    def test_greater_nets(self):
        ring = tuple((index, 1) for index in range(16))
        net = edge_nets(211)[0]
        self.assertIs(is_ring(net, ring), True)
        self.assertIs(is_ring(net, ring[5:] + ring[:5]), True)
        self.assertIs(is_ring(net, tuple((index + 16 * (index % 5), 1) for index in range(16))), True)
        self.assertIs(is_ring(net, ring[:-1]), False)
        self.assertIs(is_ring(net, ring[:-1] + ((15, -1),)), False)
        self.assertIs(is_ring(net, ring + ((16, 1),)), False)


class Closing(unittest.TestCase):
    def test_hand_made_rings(self):
        self.assertEqual(closing(PAIR, ((0, 1), (1, 1))), 0)
        self.assertEqual(closing(PAIR, ((2, 1), (0, -1))), 2)
        self.assertEqual(closing(PAIR, ((0, 1), (2, -1))), -2)
        self.assertEqual(closing(RING, ((0, 1), (1, 1), (2, -1), (3, 1))), -4)

    def test_rings_begun_elsewhere_close_the_same_and_turned_ones_the_opposite(self):
        for net in small_nets(212, 60, most_marks=5, most_readings=7):
            for ring, told in all_closings(net).items():
                self.assertEqual(closing(net, ring), told)
                self.assertIs(type(closing(net, ring)), int)
                for turn in range(len(ring)):
                    self.assertEqual(closing(net, ring[turn:] + ring[:turn]), told)
                self.assertEqual(closing(net, turned(ring)), -told)

    def test_greatest_values(self):
        net = ("net", NAMES, tuple((mark, (mark + 1) % 16, MILLION) for mark in range(16)))
        ring = tuple((index, 1) for index in range(16))
        self.assertEqual((closing(net, ring), closing(net, turned(ring))), (16 * MILLION, -16 * MILLION))

    def test_heights_that_keep_a_ring_are_there_only_if_it_closes_with_0(self):
        seen = set()
        for net in small_nets(213, 50, most_marks=3, most_readings=5):
            for ring, told in all_closings(net).items():
                rows = tuple(net[2][index] for index, _ in ring)
                kept = any(not lies_by_hand((net[0], net[1], rows), heights) for heights in all_heights(net, 6))
                self.assertIs(kept, told == 0)
                seen.add(kept)
        self.assertEqual(seen, {True, False})


class Rings(unittest.TestCase):
    def right(self, net):
        told = rings(net)
        self.assertEqual(told, rings_by_search(net), net)
        self.assertTrue(is_made_of_tuples(told))
        self.assertEqual(closings(net), tuple(sum(way * net[2][index][2] for index, way in ring) for ring in told))
        self.assertTrue(is_made_of_tuples(closings(net)))

    def test_one_mark_and_trees_have_none(self):
        draw = random.Random(214)
        trees = [LONE, PATH, ("net", ("a", "b"), ((1, 0, 5),)), drawn_net(draw, 16, 0, 9), drawn_net(draw, 7, 0, 9)]
        for net in trees + [edge_nets(214)[-1]]:
            self.assertEqual((rings(net), closings(net)), ((), ()))

    def test_readings_between_the_same_two_marks(self):
        self.assertEqual(rings(PAIR), (((1, 1), (0, 1)), ((2, 1), (0, -1))))
        self.assertEqual(closings(PAIR), (0, 2))
        net = ("net", ("a", "b"), ((1, 0, 5), (0, 1, 3), (1, 0, 4)))
        self.assertEqual((rings(net), closings(net)), ((((1, 1), (0, 1)), ((2, 1), (0, -1))), (8, -1)))

    def test_hand_made_nets(self):
        self.assertEqual(rings(TRIANGLE), (((1, 1), (0, 1)), ((2, 1), (3, 1), (0, 1))))
        self.assertEqual(rings(RING), (((1, 1), (4, -1), (0, 1)), ((2, 1), (4, -1), (3, -1))))
        self.assertEqual(closings(RING), (-7, -3))

    def test_a_ring_that_does_not_go_through_the_first_mark(self):
        net = ("net", NAMES[:4], ((0, 3, 1), (3, 1, 2), (2, 3, 4), (2, 1, 8)))
        self.assertEqual((rings(net), closings(net)), ((((3, 1), (1, -1), (2, -1)),), (2,)))

    def test_the_order_in_which_marks_are_found_counts(self):
        # The mark c is found ahead of b, and finds d before b can.
        net = ("net", NAMES[:4], ((1, 3, 1), (0, 2, 1), (0, 1, 1), (2, 3, 1)))
        self.assertEqual(rings(net), (((0, 1), (3, -1), (1, -1), (2, 1)),))
        # Of two readings that can find a mark, the first one does.
        net = ("net", NAMES[:3], ((2, 1, 1), (2, 1, 1), (0, 1, 1), (1, 0, 1)))
        self.assertEqual(rings(net), (((1, 1), (0, -1)), ((3, 1), (2, 1))))

    def test_against_a_search(self):
        for net in small_nets(215, 150, most_marks=6, most_readings=9):
            self.right(net)

    def test_nets_at_the_bounds(self):
        draw = random.Random(216)
        for net in edge_nets(216) + [drawn_net(draw, 16, many, MILLION) for many in (16, 20, 40)]:
            finders = tree_by_hand(net)
            told = rings(net)
            rest = [index for index in range(len(net[2])) if index not in finders]
            self.assertEqual([ring[0] for ring in told], [(index, 1) for index in rest])
            for ring in told:
                self.assertTrue(ring_is_right(net, ring))
                self.assertTrue(all(index in finders for index, _ in ring[1:]))
            self.assertEqual(closings(net), tuple(sum(way * net[2][k][2] for k, way in ring) for ring in told))

    def test_rings_are_rings(self):
        for net in small_nets(217, 80, most_marks=8, most_readings=16):
            for ring in rings(net):
                self.assertIs(is_ring(net, ring), True)

    def test_all_rings_close_with_0_just_if_those_of_the_tree_do(self):
        draw = random.Random(218)
        seen = set()
        for net in small_nets(218, 150, most_marks=4, most_readings=6):
            heights = (0,) + tuple(draw.randint(-3, 3) for _ in net[1][1:])
            for told in (net, kept_values(net, heights), with_lies(draw, net, heights, 1, 1)):
                zero = not any(closings(told))
                self.assertIs(zero, not any(all_closings(told).values()))
                seen.add((zero, len(closings(told)) > 0))
        self.assertEqual(seen, {(True, False), (True, True), (False, True)})

    def test_heights_that_keep_all_readings_are_there_just_if_all_rings_close_with_0(self):
        draw = random.Random(219)
        seen = set()
        for net in small_nets(219, 100, most_marks=3, most_readings=5):
            heights = (0,) + tuple(draw.randint(-3, 3) for _ in net[1][1:])
            for told in (net, kept_values(net, heights), with_lies(draw, net, heights, 2, 1)):
                kept = any(not lies_by_hand(told, tried) for tried in all_heights(told, 6))
                self.assertIs(kept, not any(closings(told)))
                seen.add(kept)
        self.assertEqual(seen, {True, False})


class AreSeen(unittest.TestCase):
    def test_one_mark(self):
        for k in (0, 1, 2, 80, 1000):
            self.assertIs(are_seen(LONE, k), True)

    def test_hand_made_nets(self):
        self.assertEqual([are_seen(PAIR, k) for k in range(5)], [True, True, True, False, False])
        self.assertEqual([are_seen(RING, k) for k in range(4)], [True, True, False, False])
        self.assertEqual([are_seen(PATH, k) for k in range(3)], [True, False, False])

    def test_strengths_below_at_and_above(self):
        for net in small_nets(220, 80, most_marks=5, most_readings=14):
            size = strength_by_sides(net)
            for k in range(max(size, 0) + 3):
                self.assertIs(are_seen(net, k), size == -1 or size >= k + 1, (net, k))

    def test_nets_at_the_bounds(self):
        nets = edge_nets(221)
        for net, size in ((nets[0], 10), (nets[-2], 80), (nets[-1], 1)):
            for k in (0, size - 1, size, size + 1, 200):
                self.assertIs(are_seen(net, k), k < size)

    def test_where_it_is_true_any_lies_are_seen(self):
        draw = random.Random(222)
        for net in small_nets(222, 80, most_marks=5, most_readings=12):
            heights = (0,) + tuple(draw.randint(-9, 9) for _ in net[1][1:])
            for k in range(1, 6):
                if are_seen(net, k):
                    for many in range(1, k + 1):
                        told = with_lies(draw, net, heights, many, draw.choice((1, 3, MILLION)))
                        self.assertEqual(any(closings(told)), len(net[2]) > 0)

    def test_where_it_is_false_a_cut_raised_alike_is_not_seen(self):
        draw = random.Random(223)
        for net in small_nets(223, 80, most_marks=5, most_readings=9):
            heights = (0,) + tuple(draw.randint(-9, 9) for _ in net[1][1:])
            sides = list(all_sides(net))
            for k in range(1, 5):
                if not are_seen(net, k):
                    side = min(sides, key=lambda tried: len(cut_by_hand(net, tried)))
                    cut = cut_by_hand(net, side)
                    self.assertTrue(1 <= len(cut) <= k)
                    rows = list(kept_values(net, heights)[2])
                    for index in cut:
                        start, end, value = rows[index]
                        rows[index] = (start, end, value + (5 if end in side else -5))
                    told = (net[0], net[1], tuple(rows))
                    self.assertEqual(lies_by_hand(told, heights), cut)
                    self.assertFalse(any(closings(told)))


class Explanations(unittest.TestCase):
    def right(self, net, k):
        told = explanations(net, k)
        self.assertEqual(told, explanations_by_search(net, k), (net, k))
        self.assertTrue(is_made_of_tuples(told))

    def test_where_all_rings_close_with_0(self):
        for net in (LONE, PATH, TRIANGLE, kept_values(RING, (0, 5, -3, 8)), edge_nets(224)[-1]):
            for k in (0, 1, 2):
                self.assertEqual(explanations(net, k), ((),))
        for k in (3, 80, 1000):
            self.assertEqual(explanations(LONE, k), ((),))
            self.assertEqual(explanations(TRIANGLE, k), ((),))

    def test_hand_made_nets(self):
        self.assertEqual(explanations(PAIR, 1), ((2,),))
        self.assertEqual(explanations(PAIR, 2), ((2,), (0, 1)))
        self.assertEqual(explanations(PAIR, 3), ((2,), (0, 1)))
        self.assertEqual(explanations(PAIR, 99), ((2,), (0, 1)))
        net = ("net", ("a", "b", "c"), ((0, 1, 7), (1, 2, 3), (2, 0, -9)))
        self.assertEqual(explanations(net, 1), ((0,), (1,), (2,)))
        self.assertEqual(explanations(net, 3), ((0,), (1,), (2,)))

    def test_where_no_set_explains_the_net(self):
        self.assertEqual(explanations(PAIR, 0), ())
        net = ("net", ("a", "b"), ((0, 1, 1), (0, 1, 2), (1, 0, -3), (0, 1, 4)))
        self.assertEqual([explanations(net, k) for k in range(3)], [(), (), ()])
        self.assertEqual(explanations(net, 3), ((0, 1, 2), (0, 1, 3), (0, 2, 3), (1, 2, 3)))
        self.assertEqual(explanations(net, 4), explanations(net, 3))

    def test_readings_without_which_the_net_is_not_joined(self):
        net = ("net", NAMES[:3], ((0, 1, 1), (1, 2, 5), (2, 1, 5), (1, 0, 3)))
        self.assertEqual(explanations(net, 4), ((0, 1), (0, 2), (1, 3), (2, 3)))

    def test_k_0_and_k_beyond_the_number_of_readings(self):
        for net in small_nets(225, 60, most_marks=4, most_readings=7):
            self.right(net, 0)
            for more in (0, 1, 2, 1000):
                self.right(net, len(net[2]) + more)

    def test_against_all_sets(self):
        draw = random.Random(226)
        seen = set()
        for net in small_nets(226, 120, most_marks=5, most_readings=9):
            heights = (0,) + tuple(draw.randint(-9, 9) for _ in net[1][1:])
            for told in (net, with_lies(draw, net, heights, 1, 2), with_lies(draw, net, heights, 3, 2)):
                for k in (1, 2, 3, 4):
                    self.right(told, k)
                    seen.add(min(len(explanations(told, k)), 3))
        self.assertEqual(seen, {0, 1, 2, 3})

    def test_least_explanations_of_unlike_lengths(self):
        seen = set()
        for net in small_nets(227, 60, most_marks=4, most_readings=9, most=1):
            seen.add(len({len(chosen) for chosen in explanations(net, 9)}))
            self.right(net, 9)
        self.assertTrue({1, 2, 3} <= seen)

    def test_values_with_which_all_rings_close_with_0_are_there(self):
        for net in small_nets(228, 40, most_marks=3, most_readings=4, most=1):
            for many in range(len(net[2]) + 1):
                for chosen in itertools.combinations(range(len(net[2])), many):
                    found = False
                    for values in itertools.product(range(-4, 5), repeat=many):
                        rows = list(net[2])
                        for index, value in zip(chosen, values):
                            rows[index] = rows[index][:2] + (value,)
                        found = found or not any(closings((net[0], net[1], tuple(rows))))
                    told = explanations(net, 9)
                    self.assertIs(found, any(set(less) <= set(chosen) for less in told))

    def test_lies_are_among_what_is_explained(self):
        draw = random.Random(229)
        for net in edge_nets(229) + [drawn_net(draw, 12, 40, MILLION) for _ in range(5)]:
            heights = (0,) + tuple(draw.randint(-MILLION // 2, MILLION // 2) for _ in net[1][1:])
            for k in (0, 1, 2):
                told = with_lies(draw, net, heights, k, MILLION)
                lying = set(lies_by_hand(told, heights))
                self.assertTrue(any(set(less) <= lying for less in explanations(told, 2)))


class TooManySets(unittest.TestCase):
    def nets_with(self, many):
        """Nets with so many readings, with unlike values."""
        draw = random.Random(many)
        yield ("net", ("a", "b"), ((0, 1, 5),) * many)
        yield ("net", ("a", "b"), tuple((0, 1, draw.randint(-MILLION, MILLION)) for _ in range(many)))
        yield drawn_net(draw, min(many + 1, 9), many, MILLION)
        yield kept_values(drawn_net(draw, min(many + 1, 16), many, 0), tuple(range(16)))

    def let(self, many, k):
        for net in self.nets_with(many):
            self.assertIs(type(explanations(net, k)), tuple, (net, k))

    def refused(self, many, k):
        for net in self.nets_with(many):
            with self.assertRaises(BadState) as caught:
                explanations(net, k)
            self.assertIs(type(caught.exception), BadState)

    def test_the_last_number_of_readings_that_is_let_and_the_first_that_is_refused(self):
        for k, most in ((3, 49), (4, 26), (5, 19), (6, 16), (7, 15), (8, 14)):
            self.let(most, k)
            self.refused(most + 1, k)

    def test_the_bound_by_counting(self):
        for many in range(1, 81):
            for k in range(1, 16):
                sets = sum(comb(many, size) for size in range(min(k, many) + 1))
                net = ("net", ("a", "b"), ((0, 1, 5),) * many)
                if sets > 20000:
                    with self.assertRaises(BadState):
                        explanations(net, k)
                else:
                    self.assertEqual(explanations(net, k), ((),))

    def test_up_to_two_readings_are_always_let(self):
        for k in (0, 1, 2):
            self.let(80, k)

    def test_k_beyond_the_number_of_readings(self):
        for k in (14, 15, 80, 1000):
            self.let(14, k)
        for k in (8, 15, 16, 80, 1000):
            self.refused(15, k)
        for k in (3, 40, 79, 80, 81, 1000):
            self.refused(80, k)


if __name__ == "__main__":
    unittest.main()
