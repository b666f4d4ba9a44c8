"""truelevels.trusted: y1 to y4."""

import itertools
import random
import unittest

from helpers import (LONE, NAMES, PAIR, RING, TRIANGLE, all_heights, drawn_net, edge_nets, is_made_of_tuples, is_plain,
                     kept_values, lies_by_hand, small_nets, strength_by_sides, sum_of_misses, with_lies)
from truelevels.adjust import best_paper
from truelevels.errors import BadNet
from truelevels.nets import check_net
from truelevels.trusted import (fewest_trusted, heights_of, homes, is_safe_with, merged, sure_lies, trusted_best)
from truelevels.worlds import is_safe

MILLION = 1000000
# Two marks whose readings do not agree.
APART = ("net", ("a", "b"), ((0, 1, 7), (1, 0, -7), (0, 1, 9)))


def homes_by_walk(net, trusted):
    """Homes and offsets by a walk from each mark without a home, or None where trusted readings do not agree."""
    firsts = {}
    offsets = {}
    for first in range(len(net[1])):
        if first not in firsts:
            firsts[first] = first
            offsets[first] = 0
            walk = [first]
            for mark in walk:
                for index in trusted:
                    start, end, value = net[2][index]
                    for here, there, rise in ((start, end, value), (end, start, -value)):
                        if here == mark and there not in firsts:
                            firsts[there] = first
                            offsets[there] = offsets[mark] + rise
                            walk.append(there)
    for index in trusted:
        start, end, value = net[2][index]
        if offsets[end] - offsets[start] != value:
            return None
    marks = range(len(net[1]))
    return tuple(firsts[mark] for mark in marks), tuple(offsets[mark] for mark in marks)


def merged_by_hand(net, trusted):
    """The merged net."""
    firsts, offsets = homes_by_walk(net, trusted)
    order = [mark for mark in range(len(net[1])) if firsts[mark] == mark]
    rows = []
    for start, end, value in net[2]:
        if firsts[start] != firsts[end]:
            rows.append((order.index(firsts[start]), order.index(firsts[end]), value - offsets[end] + offsets[start]))
    return ("net", tuple(net[1][mark] for mark in order), tuple(rows))


def drawn_trusted(draw, net, share=0.3):
    """Some readings of a net."""
    return tuple(index for index in range(len(net[2])) if draw.random() < share)


def agreeing(draw, net):
    """The net with values that some heights keep but for some lies, and readings that agree, those perhaps lying."""
    heights = (0,) + tuple(draw.randint(-9, 9) for _ in net[1][1:])
    told = with_lies(draw, net, heights, draw.randint(0, 3), 5)
    trusted = drawn_trusted(draw, net)
    if draw.random() < 0.7:
        trusted = tuple(index for index in trusted if index not in lies_by_hand(told, heights))
    return told, trusted if homes_by_walk(told, trusted) else ()


def all_sets(many):
    """All tuples of indices below many, by their lengths and then in order."""
    for size in range(many + 1):
        yield from itertools.combinations(range(many), size)


class Homes(unittest.TestCase):
    def has(self, net, trusted, told):
        self.assertEqual(homes(net, trusted), told, (net, trusted))
        self.assertTrue(is_made_of_tuples(homes(net, trusted)))

    def test_no_trusted_readings(self):
        self.has(LONE, (), ((0,), (0,)))
        self.has(PAIR, (), ((0, 1), (0, 0)))
        self.has(RING, (), ((0, 1, 2, 3), (0, 0, 0, 0)))

    def test_all_readings(self):
        self.has(TRIANGLE, (0, 1, 2, 3), ((0, 0, 0), (0, 4, 9)))
        net = kept_values(RING, (0, 5, -3, 8))
        self.has(net, (0, 1, 2, 3, 4), ((0, 0, 0, 0), (0, 5, -3, 8)))

    def test_readings_in_either_direction(self):
        self.has(TRIANGLE, (0,), ((0, 0, 2), (0, 4, 0)))
        self.has(TRIANGLE, (1,), ((0, 0, 2), (0, 4, 0)))
        self.has(TRIANGLE, (3,), ((0, 1, 0), (0, 0, 9)))
        self.has(TRIANGLE, (2,), ((0, 1, 1), (0, 0, 5)))
        self.has(RING, (2,), ((0, 1, 2, 2), (0, 0, 0, -6)))
        self.has(RING, (0, 2), ((0, 0, 2, 2), (0, 3, 0, -6)))
        self.has(RING, (1, 2), ((0, 1, 1, 1), (0, 0, -2, -8)))
        self.has(RING, (2, 3), ((0, 1, 0, 0), (0, 0, 5, -1)))

    def test_the_first_mark_of_a_part_is_its_home_whichever_way_the_readings_go(self):
        net = ("net", NAMES[:5], ((4, 3, 2), (3, 1, 10), (0, 2, 1), (0, 1, 4)))
        self.has(net, (0, 1), ((0, 1, 2, 1, 1), (0, 0, 0, -10, -12)))
        self.has(net, (0, 2), ((0, 1, 0, 3, 3), (0, 0, 1, 0, -2)))

    def test_several_readings_between_two_marks(self):
        self.has(PAIR, (0, 1), ((0, 0), (0, 7)))
        self.has(PAIR, (2,), ((0, 0), (0, 9)))
        for trusted in ((0, 2), (1, 2), (0, 1, 2)):
            with self.assertRaises(BadNet):
                homes(PAIR, trusted)

    def test_values_far_up_and_below_0(self):
        net = ("net", NAMES, tuple((mark, mark + 1, MILLION) for mark in range(15)))
        self.has(net, tuple(range(15)), ((0,) * 16, tuple(mark * MILLION for mark in range(16))))
        net = ("net", NAMES, tuple((mark, mark + 1, -MILLION) for mark in range(15)))
        self.has(net, tuple(range(15)), ((0,) * 16, tuple(-mark * MILLION for mark in range(16))))
        self.has(net, tuple(range(3, 15)), ((0, 1, 2) + (3,) * 13, (0, 0, 0) + tuple(-m * MILLION for m in range(13))))

    def test_against_a_walk(self):
        draw = random.Random(240)
        seen = set()
        for net in small_nets(240, 200, most_marks=7, most_readings=12) + edge_nets(240):
            told, trusted = agreeing(draw, net)
            self.has(told, trusted, homes_by_walk(told, trusted))
            seen.add(min(len(trusted), 3))
        self.assertEqual(seen, {0, 1, 2, 3})


class NotTrusted(unittest.TestCase):
    def test_each_function_refuses_just_what_does_not_agree(self):
        draw = random.Random(241)
        seen = set()
        for net in small_nets(241, 60, most_marks=4, most_readings=6, most=1) + [APART, RING, TRIANGLE]:
            for trusted in all_sets(len(net[2])):
                agrees = homes_by_walk(net, trusted) is not None
                heights = (0,) * (len(merged_by_hand(net, trusted)[1]) if agrees else len(net[1]))
                seen.add(agrees)
                for call in (lambda: homes(net, trusted), lambda: merged(net, trusted),
                             lambda: heights_of(net, trusted, heights), lambda: trusted_best(net, trusted),
                             lambda: sure_lies(net, trusted), lambda: is_safe_with(net, trusted, draw.randint(0, 2))):
                    if agrees:
                        call()
                    else:
                        self.refused(call)
        self.assertEqual(seen, {True, False})

    def refused(self, call):
        with self.assertRaises(BadNet) as caught:
            call()
        self.assertIs(type(caught.exception), BadNet)
        self.assertEqual((caught.exception.line, caught.exception.reason), (0, "not trusted"))

    def test_rings_that_do_not_close(self):
        self.refused(lambda: homes(RING, (0, 1, 4)))
        self.refused(lambda: homes(RING, (0, 1, 2, 3)))
        self.refused(lambda: homes(RING, (0, 1, 2, 3, 4)))
        ring = ("net", NAMES, tuple((mark, (mark + 1) % 16, MILLION) for mark in range(16)))
        self.refused(lambda: homes(ring, tuple(range(16))))
        self.assertEqual(homes(ring, tuple(range(15)))[0], (0,) * 16)
        self.assertEqual(homes(edge_nets(242)[0], tuple(range(80)))[1], (0, MILLION) * 8)

    def test_a_difference_of_1(self):
        net = ("net", ("a", "b"), ((0, 1, MILLION), (1, 0, 1 - MILLION), (1, 0, -MILLION)))
        self.refused(lambda: homes(net, (0, 1)))
        self.refused(lambda: merged(net, (1, 2)))
        self.assertEqual(homes(net, (0, 2)), ((0, 0), (0, MILLION)))

    def test_fewest_trusted_does_not_look_at_values(self):
        self.assertEqual(fewest_trusted(APART, 2), (0,))


class Merged(unittest.TestCase):
    def test_no_trusted_readings(self):
        for net in (LONE, PAIR, TRIANGLE, RING):
            self.assertEqual(merged(net, ()), net)

    def test_hand_made_nets(self):
        self.assertEqual(merged(TRIANGLE, (0,)), ("net", ("a", "c"), ((0, 1, 9), (1, 0, -9))))
        self.assertEqual(merged(RING, (2,)), ("net", ("a", "b", "c"), ((0, 1, 3), (1, 2, -2), (2, 0, -5), (0, 2, 8))))
        self.assertEqual(merged(RING, (0, 2)), ("net", ("a", "c"), ((0, 1, 1), (1, 0, -5), (0, 1, 8))))
        self.assertEqual(merged(RING, (3,)), ("net", ("a", "b", "c"), ((0, 1, 3), (1, 2, -2), (0, 2, 5), (0, 2, 8))))

    def test_all_marks_in_one_home(self):
        self.assertEqual(merged(PAIR, (0,)), ("net", ("a",), ()))
        self.assertEqual(merged(PAIR, (2,)), ("net", ("a",), ()))
        self.assertEqual(merged(TRIANGLE, (0, 1, 2, 3)), ("net", ("a",), ()))
        self.assertEqual(merged(LONE, ()), ("net", ("a",), ()))

    def test_values_beyond_those_of_a_net(self):
        net = ("net", NAMES[:3], ((0, 1, MILLION), (2, 1, -MILLION), (0, 2, MILLION)))
        self.assertEqual(merged(net, (0,)), ("net", ("a", "c"), ((1, 0, -2 * MILLION), (0, 1, MILLION))))
        self.assertEqual(trusted_best(net, (0,))[:2], (0, MILLION))

    def test_names_stay_with_their_marks(self):
        net = ("net", ("zz", "to", "q"), ((1, 2, 5), (0, 1, 3)))
        self.assertEqual(merged(net, (1,)), ("net", ("zz", "q"), ((0, 1, 8),)))

    def test_against_sums(self):
        draw = random.Random(243)
        for net in small_nets(243, 200, most_marks=7, most_readings=12) + edge_nets(243):
            told, trusted = agreeing(draw, net)
            found = merged(told, trusted)
            self.assertEqual(found, merged_by_hand(told, trusted))
            self.assertTrue(is_made_of_tuples(found[2]))
            if all(abs(value) <= MILLION for _, _, value in found[2]):
                check_net(found)


class HeightsOf(unittest.TestCase):
    def test_hand_made_nets(self):
        self.assertEqual(heights_of(TRIANGLE, (0,), (0, 20)), (0, 4, 20))
        self.assertEqual(heights_of(TRIANGLE, (2,), (0, 20)), (0, 20, 25))
        self.assertEqual(heights_of(RING, (0, 2), (0, 10)), (0, 3, 10, 4))
        self.assertEqual(heights_of(RING, (2,), (0, 1, 2)), (0, 1, 2, -4))
        self.assertEqual(heights_of(PAIR, (0, 1), (0,)), (0, 7))
        self.assertEqual(heights_of(LONE, (), (0,)), (0,))
        self.assertEqual(heights_of(RING, (), (0, 5, 6, 7)), (0, 5, 6, 7))

    def test_heights_that_keep_the_trusted_readings_stand_for_heights_of_the_merged_net(self):
        draw = random.Random(244)
        for net in small_nets(244, 80, most_marks=4, most_readings=7, most=2):
            told, trusted = agreeing(draw, net)
            rows = tuple(told[2][index] for index in trusted)
            small = merged(told, trusted)
            inner = sum_of_misses(told, heights_of(told, trusted, (0,) * len(small[1]))) - sum_of_misses(
                small, (0,) * len(small[1]))
            reach = {}
            for heights in all_heights(small, 2):
                whole = heights_of(told, trusted, heights)
                self.assertEqual((whole[0], len(whole)), (0, len(told[1])))
                self.assertTrue(type(whole) is tuple and all(map(is_plain, whole)))
                self.assertEqual(lies_by_hand((told[0], told[1], rows), whole), ())
                # The misses of the readings within homes are the same by all of these heights.
                self.assertEqual(sum_of_misses(told, whole), inner + sum_of_misses(small, heights))
                reach[whole] = heights
            self.assertEqual(len(reach), 5 ** (len(small[1]) - 1))
            firsts = homes(told, trusted)[0]
            for whole in all_heights(told, 2):
                if not lies_by_hand((told[0], told[1], rows), whole):
                    back = tuple(whole[mark] for mark in range(len(told[1])) if firsts[mark] == mark)
                    self.assertEqual(heights_of(told, trusted, back), whole)


class TrustedBest(unittest.TestCase):
    def test_hand_made_nets(self):
        self.assertEqual(trusted_best(PAIR, (2,)), (0, 9))
        self.assertEqual(trusted_best(PAIR, (0,)), (0, 7))
        self.assertEqual(trusted_best(PAIR, ()), (0, 7))
        self.assertEqual(trusted_best(LONE, ()), (0,))

    def test_no_heights_that_keep_the_trusted_readings_cost_less(self):
        draw = random.Random(245)
        seen = set()
        for net in small_nets(245, 100, most_marks=4, most_readings=7, most=2):
            for trusted in (drawn_trusted(draw, net, 0.15), drawn_trusted(draw, net, 0.3)):
                if homes_by_walk(net, trusted) is None:
                    continue
                rows = ("net", net[1], tuple(net[2][index] for index in trusted))
                costs = [sum_of_misses(net, heights) for heights in all_heights(net, 6) if not lies_by_hand(rows, heights)]
                told = trusted_best(net, trusted)
                self.assertEqual(lies_by_hand(rows, told), ())
                self.assertEqual((told[0], len(told)), (0, len(net[1])))
                self.assertTrue(type(told) is tuple and all(map(is_plain, told)))
                self.assertEqual(sum_of_misses(net, told), min(costs))
                seen.add((len(trusted) > 0, sum_of_misses(net, told) > sum_of_misses(net, best_paper(net)[1])))
        self.assertEqual(seen, {(False, False), (True, False), (True, True)})

    def test_true_heights_are_found_where_the_net_is_safe(self):
        draw = random.Random(246)
        seen = set()
        for net in small_nets(246, 150, most_marks=6, most_readings=14) + edge_nets(246):
            heights = (0,) + tuple(draw.randint(-999, 999) for _ in net[1][1:])
            for k in (0, 1, 2):
                told = with_lies(draw, net, heights, k, 9)
                trusted = tuple(index for index in drawn_trusted(draw, net) if index not in lies_by_hand(told, heights))
                if is_safe_with(told, trusted, k):
                    self.assertEqual(trusted_best(told, trusted), heights)
                    seen.add((k, is_safe(told, k)))
        self.assertEqual(seen, {(k, safe) for k in (0, 1, 2) for safe in (True, False)} - {(0, False)})

    def test_nets_at_the_bounds(self):
        draw = random.Random(247)
        for net in edge_nets(247):
            trusted = ()
            for index in draw.sample(range(len(net[2])), 10):
                if homes_by_walk(net, sorted(trusted + (index,))):
                    trusted = tuple(sorted(trusted + (index,)))
            told = trusted_best(net, trusted)
            self.assertFalse(set(trusted) & set(lies_by_hand(net, told)))
            small = merged_by_hand(net, trusted)
            best = sum_of_misses(small, best_paper(small)[1])
            rows = ("net", net[1], tuple(r for k, r in enumerate(net[2]) if crosses(net, trusted, k)))
            self.assertEqual(sum_of_misses(rows, told), best)


def crosses(net, trusted, index):
    """True if the ends of a reading have unlike homes."""
    firsts = homes_by_walk(net, trusted)[0]
    return firsts[net[2][index][0]] != firsts[net[2][index][1]]


class SureLies(unittest.TestCase):
    def test_hand_made_nets(self):
        self.assertEqual(sure_lies(PAIR, (0,)), (2,))
        self.assertEqual(sure_lies(PAIR, (2,)), (0, 1))
        self.assertEqual(sure_lies(PAIR, (0, 1)), (2,))
        self.assertEqual(sure_lies(PAIR, ()), ())
        self.assertEqual(sure_lies(LONE, ()), ())
        self.assertEqual(sure_lies(RING, (0, 1)), (4,))
        self.assertEqual(sure_lies(RING, (2, 3)), (4,))
        self.assertEqual(sure_lies(RING, (0, 1, 2)), (3, 4))
        self.assertEqual(sure_lies(TRIANGLE, (0, 2)), ())

    def test_against_a_walk(self):
        draw = random.Random(248)
        seen = set()
        for net in small_nets(248, 200, most_marks=6, most_readings=12) + edge_nets(248):
            told, trusted = agreeing(draw, net)
            firsts, offsets = homes_by_walk(told, trusted)
            found = []
            for index, (start, end, value) in enumerate(told[2]):
                if firsts[start] == firsts[end] and offsets[start] + value != offsets[end]:
                    found.append(index)
            self.assertEqual(sure_lies(told, trusted), tuple(found))
            self.assertTrue(is_made_of_tuples(sure_lies(told, trusted)))
            self.assertFalse(set(found) & set(trusted))
            seen.add(min(len(found), 2))
        self.assertEqual(seen, {0, 1, 2})

    def test_they_lie_by_all_heights_that_keep_the_trusted_readings(self):
        draw = random.Random(249)
        for net in small_nets(249, 60, most_marks=4, most_readings=7, most=2):
            told, trusted = agreeing(draw, net)
            rows = ("net", told[1], tuple(told[2][index] for index in trusted))
            for heights in all_heights(told, 3):
                if not lies_by_hand(rows, heights):
                    self.assertTrue(set(sure_lies(told, trusted)) <= set(lies_by_hand(told, heights)))


class SafeWith(unittest.TestCase):
    def test_hand_made_nets(self):
        self.assertEqual([is_safe_with(PAIR, (), k) for k in range(3)], [True, True, False])
        self.assertEqual([is_safe_with(PAIR, (2,), k) for k in (0, 1, 2, 1000)], [True] * 4)
        self.assertEqual([is_safe_with(RING, (0, 2), k) for k in range(3)], [True, True, False])
        self.assertEqual([is_safe_with(RING, (0,), k) for k in range(3)], [True, False, False])
        self.assertEqual([is_safe_with(LONE, (), k) for k in (0, 1, 1000)], [True] * 3)

    def test_against_all_sides_of_the_merged_net(self):
        draw = random.Random(250)
        seen = set()
        for net in small_nets(250, 150, most_marks=6, most_readings=16):
            told, trusted = agreeing(draw, net)
            size = strength_by_sides(merged_by_hand(told, trusted))
            for k in range(5):
                self.assertIs(is_safe_with(told, trusted, k), size == -1 or size >= 2 * k + 1)
                seen.add((is_safe_with(told, trusted, k), is_safe(told, k)))
        self.assertEqual(seen, {(True, True), (True, False), (False, False)})


class FewestTrusted(unittest.TestCase):
    def right(self, net, k):
        """Check against all sets: the merged net depends on which readings are trusted, not on their values."""
        still = kept_values(net, (0,) * len(net[1]))
        for chosen in all_sets(len(net[2])):
            size = strength_by_sides(merged_by_hand(still, chosen))
            if size == -1 or size >= 2 * k + 1:
                break
        told = fewest_trusted(net, k)
        self.assertEqual(told, chosen, (net, k))
        self.assertTrue(is_made_of_tuples(told))

    def test_one_mark(self):
        for k in (0, 1, 50):
            self.assertEqual(fewest_trusted(LONE, k), ())

    def test_hand_made_nets(self):
        self.assertEqual([fewest_trusted(PAIR, k) for k in range(4)], [(), (), (0,), (0,)])
        self.assertEqual([fewest_trusted(RING, k) for k in range(4)], [(), (0, 2), (0, 1, 2), (0, 1, 2)])
        self.assertEqual([fewest_trusted(TRIANGLE, k) for k in range(3)], [(), (2,), (0, 2)])

    def test_nets_that_are_safe_as_they_are(self):
        for many in (1, 3, 5, 12):
            net = ("net", ("a", "b"), ((0, 1, 5),) * many)
            for k in range(8):
                self.assertEqual(fewest_trusted(net, k), () if many >= 2 * k + 1 else (0,))

    def test_the_first_one_by_order(self):
        net = ("net", NAMES[:3], ((1, 2, 0), (0, 1, 0), (0, 2, 0), (0, 2, 0)))
        self.assertEqual(fewest_trusted(net, 1), (0,))
        net = ("net", NAMES[:3], ((0, 2, 0), (0, 2, 0), (1, 2, 0), (0, 1, 0)))
        self.assertEqual(fewest_trusted(net, 1), (2,))

    def test_against_all_sets(self):
        for net in small_nets(251, 80, most_marks=6, most_readings=8):
            for k in (0, 1, 2, 3, 50):
                self.right(net, k)

    def test_twelve_readings(self):
        draw = random.Random(252)
        for many in (2, 3, 4, 5, 6):
            for k in (1, 2, 4):
                self.right(drawn_net(draw, many, 12, 9), k)

    def test_trees_and_rings_of_twelve_readings(self):
        tree = ("net", NAMES[:13], tuple((mark, mark + 1, 3) for mark in range(12)))
        star = ("net", NAMES[:13], tuple((mark, 0, 3) for mark in range(1, 13)))
        ring = ("net", NAMES[:12], tuple((mark, (mark + 1) % 12, 3) for mark in range(12)))
        for net in (tree, star, ring):
            self.assertEqual(fewest_trusted(net, 0), ())
        for k in (1, 2, 9):
            self.assertEqual(fewest_trusted(tree, k), tuple(range(12)))
            self.assertEqual(fewest_trusted(star, k), tuple(range(12)))
            self.assertEqual(fewest_trusted(ring, k), tuple(range(11)))

    def test_with_whatever_values(self):
        draw = random.Random(253)
        for net in small_nets(253, 60, most_marks=5, most_readings=9):
            for k in (1, 2):
                told = fewest_trusted(net, k)
                for _ in range(3):
                    rows = tuple((start, end, draw.randint(-MILLION, MILLION)) for start, end, _ in net[2])
                    other = (net[0], net[1], rows)
                    self.assertEqual(fewest_trusted(other, k), told)
                    self.assertIs(is_safe_with(other, told, k), True)

    def test_too_many_readings(self):
        for net in (("net", ("a", "b"), ((0, 1, 5),) * 13), ("net", ("a", "b"), ((0, 1, 5),) * 80),
                    drawn_net(random.Random(254), 4, 13, 9), drawn_net(random.Random(254), 14, 0, 9)):
            for k in (0, 1, 9):
                with self.assertRaises(BadNet) as caught:
                    fewest_trusted(net, k)
                self.assertIs(type(caught.exception), BadNet)
                self.assertEqual((caught.exception.line, caught.exception.reason), (0, "too great"))
        for k in (0, 5, 6, 9):
            net = ("net", ("a", "b"), ((0, 1, 5),) * 12)
            self.assertEqual(fewest_trusted(net, k), () if k <= 5 else (0,))


if __name__ == "__main__":
    unittest.main()
