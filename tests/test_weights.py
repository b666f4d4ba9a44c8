"""truelevels.weights: g1 to g5."""

import random
import unittest

from helpers import (LONE, NAMES, PAIR, RING, TRIANGLE, all_heights, all_sides, cut_by_hand, drawn_net, drawn_thing,
                     edge_nets, in_lists, is_good_side, paper_is_right, part_at, places, small_nets, sum_of_misses,
                     sum_of_worth, with_part)
from truelevels.adjust import best_paper
from truelevels.cuts import strength
from truelevels.errors import BadNet
from truelevels.judge import judge
from truelevels.weights import (broken_side, check_weights, firmness, judge_weighted, twin_of, weighted_cost,
                                weighted_paper)


def drawn_weights(draw, net, most=100):
    """Weights for a net."""
    return tuple(draw.randint(1, most) for _ in net[2])


def nets_with_weights(seed, count, heaviest=100, **sizes):
    """Small nets with weights."""
    draw = random.Random(seed)
    return [(net, drawn_weights(draw, net, heaviest)) for net in small_nets(seed, count, **sizes)]


def heavy_ones(net, weights, side, k):
    """The indices of the k heaviest readings of the cut, of equal ones the lesser index first."""
    left = list(cut_by_hand(net, side))
    taken = []
    while left and len(taken) < k:
        heaviest = max(weights[index] for index in left)
        first = [index for index in left if weights[index] == heaviest][0]
        left.remove(first)
        taken.append(first)
    return taken


def is_broken(net, weights, side, k):
    """True if a side is broken for k."""
    heavy = sum(weights[index] for index in heavy_ones(net, weights, side, k))
    return 2 * heavy >= sum(weights[index] for index in cut_by_hand(net, side))


class CheckingWeights(unittest.TestCase):
    def refused(self, net, thing):
        with self.assertRaises(BadNet) as caught:
            check_weights(net, thing)
        self.assertEqual((caught.exception.line, caught.exception.reason), (0, "not weights"))
        self.assertIs(type(caught.exception.line), int)

    def test_weights_that_are_let(self):
        for weights in ((1, 1, 1), (100, 100, 100), (1, 50, 100), (2, 99, 3)):
            self.assertIsNone(check_weights(PAIR, weights))
        self.assertIsNone(check_weights(LONE, ()))
        for net in edge_nets(50):
            self.assertIsNone(check_weights(net, (100,) * len(net[2])))

    def test_too_few_or_too_many(self):
        for thing in ((), (1,), (1, 1), (1, 1, 1, 1)):
            self.refused(PAIR, thing)
        self.refused(LONE, (1,))

    def test_beyond_the_bounds(self):
        for weight in (0, 101, -1, -100, 10 ** 20, -10 ** 20):
            for place in range(3):
                self.refused(PAIR, with_part((5, 6, 7), (place,), weight))

    def test_other_things_in_the_place_of_a_weight(self):
        for thing in (True, False, None, "", "5", (), (5,), [], [5]):
            for place in range(3):
                self.refused(PAIR, with_part((5, 6, 7), (place,), thing))

    def test_other_things_in_the_place_of_the_tuple(self):
        for thing in ([5, 6, 7], "567", None, True, False, 3, "", [], ((5, 6, 7),)):
            self.refused(PAIR, thing)
        for thing in ([], "", None, 0, False):
            self.refused(LONE, thing)


class WeightedPapers(unittest.TestCase):
    def holds(self, net, weights):
        paper = weighted_paper(net, weights)
        self.assertTrue(paper_is_right(net, paper, "weighted", weights), (net, weights, paper))
        self.assertIs(judge_weighted(net, weights, paper), True)
        return paper

    def test_weighted_cost(self):
        self.assertEqual(weighted_cost(PAIR, (1, 1, 1), (0, 7)), 2)
        self.assertEqual(weighted_cost(PAIR, (5, 3, 100), (0, 7)), 200)
        self.assertEqual(weighted_cost(PAIR, (5, 3, 100), (0, 9)), 16)
        self.assertEqual(weighted_cost(PAIR, (5, 3, 100), (0, 8)), 108)
        self.assertEqual(weighted_cost(LONE, (), (0,)), 0)
        draw = random.Random(51)
        for net, weights in nets_with_weights(51, 40):
            heights = (0,) + tuple(draw.randint(-99, 99) for _ in net[1][1:])
            self.assertEqual(weighted_cost(net, weights, heights), sum_of_misses(net, heights, weights))

    def test_one_mark(self):
        self.assertEqual(weighted_paper(LONE, ()), ("weighted", (0,), ()))
        self.assertIs(judge_weighted(LONE, (), ("weighted", (0,), ())), True)

    def test_the_heavier_reading_wins(self):
        net = ("net", ("a", "b"), ((0, 1, 5), (1, 0, -9)))
        self.assertEqual(self.holds(net, (2, 3))[1], (0, 9))
        self.assertEqual(self.holds(net, (3, 2))[1], (0, 5))
        self.assertEqual(self.holds(net, (100, 99))[1], (0, 5))
        self.assertEqual(self.holds(PAIR, (1, 1, 3))[1], (0, 9))

    def test_no_heights_cost_less(self):
        for heaviest in (2, 9, 100):
            for net, weights in nets_with_weights(52, 30, heaviest, most_marks=3):
                paper = self.holds(net, weights)
                least = min(sum_of_misses(net, heights, weights) for heights in all_heights(net, 8))
                self.assertEqual(sum_of_misses(net, paper[1], weights), least)

    def test_drawn_nets(self):
        for net, weights in nets_with_weights(53, 100, most_marks=8, most_readings=20, most=100):
            self.holds(net, weights)

    def test_nets_at_the_bounds(self):
        draw = random.Random(54)
        for net in edge_nets(54):
            for most in (1, 2, 100):
                self.holds(net, drawn_weights(draw, net, most))
            self.holds(net, (100,) * len(net[2]))

    def test_weights_of_1_give_the_least_cost(self):
        for net in small_nets(55, 60, most_marks=7, most_readings=14, most=9) + edge_nets(55):
            ones = (1,) * len(net[2])
            paper = self.holds(net, ones)
            best = best_paper(net)
            self.assertEqual(sum_of_misses(net, paper[1]), sum_of_misses(net, best[1]))
            self.assertIs(judge(net, ("best",) + paper[1:]), True)
            self.assertIs(judge_weighted(net, ones, ("weighted",) + best[1:]), True)
            self.assertEqual(weighted_cost(net, ones, best[1]), sum_of_worth(net, best[2]))

    def test_weights_are_as_so_many_readings(self):
        for net, weights in nets_with_weights(56, 30, 4, most_marks=5, most_readings=9, most=9):
            rows = [reading for reading, weight in zip(net[2], weights) for _ in range(weight)]
            more = ("net", net[1], tuple(rows))
            self.assertEqual(sum_of_misses(net, self.holds(net, weights)[1], weights),
                             sum_of_misses(more, best_paper(more)[1]))


class JudgingWeightedPapers(unittest.TestCase):
    WEIGHTS = (2, 3, 4)
    # PAIR by these weights: 7 has the weight 5, 9 the weight 4.
    PAPER = ("weighted", (0, 7), (-1, 3, 4))

    def holds(self, net, weights, paper):
        self.assertIs(judge_weighted(net, weights, paper), True, (net, weights, paper))

    def fails(self, net, weights, paper):
        self.assertIs(judge_weighted(net, weights, paper), False, (net, weights, paper))

    def test_papers_that_hold(self):
        self.holds(PAIR, self.WEIGHTS, self.PAPER)
        self.holds(PAIR, self.WEIGHTS, ("weighted", (0, 7), (-2, 2, 4)))
        self.holds(TRIANGLE, (1, 2, 3, 4), ("weighted", (0, 4, 9), (0, 0, 0, 0)))
        self.holds(TRIANGLE, (1, 2, 3, 4), ("weighted", (0, 4, 9), (1, -2, 3, 3)))
        self.holds(TRIANGLE, (2, 2, 3, 4), ("weighted", (0, 4, 9), (2, 2, 0, 0)))

    def test_flows_at_their_bounds_and_one_beyond(self):
        net = ("net", ("a", "b"), ((0, 1, 5), (0, 1, 4)))
        self.holds(net, (2, 3), ("weighted", (0, 4), (2, -2)))
        self.holds(net, (3, 2), ("weighted", (0, 5), (2, -2)))
        self.holds(net, (3, 3), ("weighted", (0, 5), (3, -3)))
        self.fails(net, (2, 3), ("weighted", (0, 5), (3, -3)))
        self.fails(net, (3, 2), ("weighted", (0, 4), (3, -3)))
        self.holds(net, (1, 100), ("weighted", (0, 4), (1, -1)))
        self.holds(net, (100, 100), ("weighted", (0, 4), (100, -100)))
        turned = ("net", ("a", "b"), ((1, 0, 5), (1, 0, 4)))
        self.holds(turned, (2, 3), ("weighted", (0, -4), (2, -2)))
        self.fails(turned, (2, 3), ("weighted", (0, -5), (3, -3)))
        back = ("net", ("a", "b"), ((0, 1, 4), (0, 1, 5)))
        self.holds(back, (3, 2), ("weighted", (0, 4), (-2, 2)))
        self.fails(back, (3, 2), ("weighted", (0, 5), (-3, 3)))
        self.fails(back, (2, 3), ("weighted", (0, 4), (-3, 3)))

    def test_other_weights(self):
        self.fails(PAIR, (2, 3, 5), self.PAPER)
        self.fails(PAIR, (2, 2, 4), self.PAPER)
        self.fails(PAIR, (1, 1, 1), self.PAPER)
        self.holds(PAIR, (3, 3, 4), self.PAPER)

    def test_one_height_or_flow_changed(self):
        for by in (-2, -1, 1, 2):
            self.fails(PAIR, self.WEIGHTS, ("weighted", (0, 7 + by), (-1, 3, 4)))
            for index in range(3):
                changed = part_at(self.PAPER, (2, index)) + by
                self.fails(PAIR, self.WEIGHTS, with_part(self.PAPER, (2, index), changed))

    def test_a_first_height_that_is_not_0(self):
        self.fails(PAIR, self.WEIGHTS, ("weighted", (1, 8), (-1, 3, 4)))
        self.fails(PAIR, self.WEIGHTS, ("weighted", (-1, 6), (-1, 3, 4)))
        self.fails(LONE, (), ("weighted", (1,), ()))

    def test_a_row_longer_or_shorter(self):
        for paper in (("weighted", (0, 7, 0), (-1, 3, 4)), ("weighted", (0,), (-1, 3, 4)),
                      ("weighted", (0, 7), (-1, 3, 4, 0)), ("weighted", (0, 7), (-1, 3)), ("weighted", (0, 7)),
                      ("weighted", (0, 7), (-1, 3, 4), ())):
            self.fails(PAIR, self.WEIGHTS, paper)
        self.fails(TRIANGLE, (1, 2, 3, 4), ("weighted", (0, 4, 9), (0, 0, 0)))
        self.fails(TRIANGLE, (1, 2, 3, 4), ("weighted", (0, 4, 9), (0, 0, 0, 0, 0)))

    def test_other_words_and_kinds(self):
        for word in ("best", "Weighted", "weight", "", 0, None, ("weighted",)):
            self.fails(PAIR, self.WEIGHTS, (word,) + self.PAPER[1:])
        ones = (1, 1, 1)
        self.holds(PAIR, ones, ("weighted", (0, 7), (0, 1, 1)))
        self.fails(PAIR, ones, ("best", (0, 7), (0, 1, 1)))
        self.fails(PAIR, ones, ("strength", 3, (1,), (((0,), (1,), (2,)),)))
        self.fails(LONE, (), ("strength", -1, (), ()))
        self.fails(LONE, (), ("best", (0,), ()))

    def test_another_nets_paper(self):
        self.fails(TRIANGLE, (2, 3, 4, 5), self.PAPER)
        self.fails(("net", ("a", "b"), ((0, 1, 7), (1, 0, -8), (0, 1, 9))), self.WEIGHTS, self.PAPER)

    def test_lists_in_the_place_of_tuples(self):
        for net, weights, paper in ((PAIR, self.WEIGHTS, self.PAPER), (LONE, (), ("weighted", (0,), ()))):
            for made in in_lists(paper):
                self.fails(net, weights, made)

    def test_true_and_false_in_the_place_of_integers(self):
        net = ("net", ("a", "b"), ((0, 1, 1), (0, 1, 0)))
        self.holds(net, (2, 1), ("weighted", (0, 1), (1, -1)))
        self.fails(net, (2, 1), ("weighted", (False, 1), (1, -1)))
        self.fails(net, (2, 1), ("weighted", (0, True), (1, -1)))
        self.fails(net, (2, 1), ("weighted", (0, 1), (True, -1)))
        self.fails(TRIANGLE, (1, 2, 3, 4), ("weighted", (0, 4, 9), (0, 0, 0, False)))

    def test_other_things_in_any_place(self):
        things = (None, "", "weighted", "0", True, False, [], [0], (), (None,), 10 ** 20, -10 ** 20)
        for net, weights, paper in ((PAIR, self.WEIGHTS, self.PAPER), (LONE, (), ("weighted", (0,), ()))):
            for place in places(paper):
                for thing in things:
                    if thing != part_at(paper, place):
                        self.fails(net, weights, with_part(paper, place, thing))

    def test_drawn_things(self):
        draw = random.Random(57)
        for _ in range(2000):
            self.fails(PAIR, self.WEIGHTS, drawn_thing(draw))
            self.fails(PAIR, self.WEIGHTS, ("weighted", drawn_thing(draw), drawn_thing(draw)))

    def test_by_sums_made_here(self):
        draw = random.Random(58)
        for net, weights in nets_with_weights(58, 120, 3, most_marks=4, most_readings=8, most=2):
            paper = weighted_paper(net, weights)
            for _ in range(12):
                heights = tuple(height + draw.choice((0, 0, 0, 1, -1)) for height in paper[1])
                flow = tuple(amount + draw.choice((0, 0, 0, 0, 1, -1)) for amount in paper[2])
                made = ("weighted", heights, flow)
                self.assertIs(judge_weighted(net, weights, made), paper_is_right(net, made, "weighted", weights))


class Firm(unittest.TestCase):
    def broken(self, net, weights, k):
        """Check that the side is a broken one, or that there is none, and tell whether there is one."""
        side = broken_side(net, weights, k)
        self.assertIs(type(side), tuple)
        if side:
            self.assertTrue(is_good_side(net, side), (net, side))
            self.assertTrue(is_broken(net, weights, side, k), (net, weights, side, k))
        return side != ()

    def test_two_marks(self):
        for weights, k, told in (((1, 1, 1), 1, ()), ((1, 1, 1), 2, (1,)), ((1, 1, 2), 1, (1,)), ((1, 1, 2), 0, ()),
                                 ((2, 2, 3), 1, ()), ((2, 2, 3), 2, (1,)), ((100, 1, 1), 1, (1,)),
                                 ((50, 49, 100), 1, (1,)), ((50, 51, 100), 1, ()), ((50, 50, 100), 1, (1,))):
            self.assertEqual(broken_side(PAIR, weights, k), told, (weights, k))

    def test_half_of_the_weight_exactly(self):
        net = ("net", ("a", "b"), ((0, 1, 7), (1, 0, -7)))
        self.assertEqual(broken_side(net, (1, 1), 1), (1,))
        self.assertEqual(firmness(net, (1, 1)), 0)
        self.assertEqual(firmness(net, (1, 2)), 0)
        four = ("net", ("a", "b"), ((0, 1, 7),) * 4)
        self.assertEqual(firmness(four, (3, 1, 1, 1)), 0)
        self.assertEqual(firmness(four, (2, 1, 1, 1)), 1)
        self.assertEqual(firmness(four, (1, 1, 1, 1)), 1)
        five = ("net", ("a", "b"), ((0, 1, 7),) * 5)
        self.assertEqual(firmness(five, (1, 1, 1, 1, 1)), 2)
        self.assertEqual(firmness(five, (2, 2, 1, 1, 1)), 1)
        self.assertEqual(firmness(five, (2, 2, 2, 2, 1)), 2)

    def test_the_side_of_the_weakest_cut(self):
        net = ("net", ("a", "b", "c"), ((0, 1, 1), (0, 1, 1), (0, 1, 1), (1, 2, 1), (1, 2, 1), (1, 2, 1)))
        self.assertEqual(broken_side(net, (2, 2, 2, 5, 1, 1), 1), (2,))
        self.assertEqual(broken_side(net, (5, 1, 1, 2, 2, 2), 1), (1, 2))
        self.assertEqual(broken_side(net, (1, 1, 1, 1, 1, 1), 1), ())

    def test_one_mark(self):
        for k in (0, 1, 5, 100):
            self.assertEqual(broken_side(LONE, (), k), ())
        self.assertEqual(firmness(LONE, ()), 0)

    def test_no_lie_breaks_nothing(self):
        for net, weights in nets_with_weights(60, 40, most_marks=6):
            self.assertEqual(broken_side(net, weights, 0), ())

    def test_against_all_sides(self):
        for heaviest in (1, 2, 5, 100):
            for net, weights in nets_with_weights(61, 30, heaviest, most_marks=5, most_readings=10):
                sides = list(all_sides(net))
                firm = []
                for k in list(range(len(net[2]) + 3)) + [100]:
                    expected = any(is_broken(net, weights, side, k) for side in sides)
                    self.assertIs(self.broken(net, weights, k), expected, (net, weights, k))
                    if not expected and k <= len(net[2]):
                        firm.append(k)
                self.assertEqual(firmness(net, weights), max(firm), (net, weights))

    def test_greater_nets(self):
        draw = random.Random(62)
        for many in (9, 12):
            net = drawn_net(draw, many, 80, 9)
            weights = drawn_weights(draw, net, 5)
            greatest = firmness(net, weights)
            self.assertEqual(broken_side(net, weights, greatest), ())
            self.assertTrue(self.broken(net, weights, greatest + 1))

    def test_two_marks_with_many_readings(self):
        net = ("net", ("a", "b"), ((0, 1, 7),) * 80)
        self.assertEqual(firmness(net, (1,) * 80), 39)
        self.assertEqual(firmness(net, (100,) + (1,) * 79), 0)
        self.assertEqual(firmness(net, (100,) * 40 + (99,) * 40), 39)

    def test_weights_of_1_and_the_strength(self):
        for net in small_nets(63, 60, most_marks=7, most_readings=30):
            if len(net[1]) > 1:
                ones = (1,) * len(net[2])
                for k in range(6):
                    self.assertIs(self.broken(net, ones, k), strength(net) < 2 * k + 1, (net, k))
                self.assertEqual(firmness(net, ones), (strength(net) - 1) // 2)

    def test_too_great(self):
        chain = tuple((mark, mark + 1, 0) for mark in range(15))
        for many in (13, 14, 16):
            net = ("net", NAMES[:many], chain[:many - 1])
            ones = (1,) * (many - 1)
            calls = [lambda: firmness(net, ones)] + [lambda k=k: broken_side(net, ones, k) for k in (0, 1, 99)]
            for call in calls:
                with self.assertRaises(BadNet) as caught:
                    call()
                self.assertEqual((caught.exception.line, caught.exception.reason), (0, "too great"))

    def test_twelve_marks_are_not_too_great(self):
        ring = tuple((mark, (mark + 1) % 12, 0) for mark in range(12))
        net = ("net", NAMES[:12], ring * 3)
        self.assertEqual(firmness(net, (1,) * 36), 2)
        self.assertEqual(broken_side(net, (1,) * 36, 2), ())
        self.assertTrue(self.broken(net, (1,) * 36, 3))


class Twins(unittest.TestCase):
    def test_hand_made_twins(self):
        self.assertEqual(twin_of(PAIR, (1, 5, 2), (1,), 2), ("net", ("a", "b"), ((0, 1, 0), (1, 0, -1), (0, 1, 1))))
        self.assertEqual(twin_of(PAIR, (1, 5, 2), (1,), 0), ("net", ("a", "b"), ((0, 1, 0), (1, 0, 0), (0, 1, 0))))
        self.assertEqual(twin_of(PAIR, (1, 5, 2), (1,), 9), ("net", ("a", "b"), ((0, 1, 1), (1, 0, -1), (0, 1, 1))))
        self.assertEqual(twin_of(TRIANGLE, (9, 8, 1, 2), (2,), 1)[2], ((0, 1, 0), (1, 0, 0), (1, 2, 0), (2, 0, -1)))
        self.assertEqual(twin_of(TRIANGLE, (9, 8, 1, 2), (1, 2), 3)[2], ((0, 1, 1), (1, 0, -1), (1, 2, 0), (2, 0, -1)))

    def test_of_equal_weights_the_lesser_index_first(self):
        self.assertEqual(twin_of(PAIR, (4, 4, 4), (1,), 1)[2], ((0, 1, 1), (1, 0, 0), (0, 1, 0)))
        self.assertEqual(twin_of(PAIR, (4, 4, 4), (1,), 2)[2], ((0, 1, 1), (1, 0, -1), (0, 1, 0)))
        self.assertEqual(twin_of(PAIR, (3, 4, 4), (1,), 1)[2], ((0, 1, 0), (1, 0, -1), (0, 1, 0)))
        self.assertEqual(twin_of(PAIR, (3, 4, 4), (1,), 2)[2], ((0, 1, 0), (1, 0, -1), (0, 1, 1)))
        self.assertEqual(twin_of(PAIR, (3, 3, 4), (1,), 2)[2], ((0, 1, 1), (1, 0, 0), (0, 1, 1)))

    def test_any_side_and_any_k(self):
        for heaviest in (1, 3, 100):
            for net, weights in nets_with_weights(70, 25, heaviest, most_marks=5, most_readings=9):
                for side in all_sides(net):
                    for k in range(len(net[2]) + 2):
                        heavy = heavy_ones(net, weights, side, k)
                        values = [(1 if end in side else -1) if index in heavy else 0
                                  for index, (_, end, _) in enumerate(net[2])]
                        rows = [(start, end, value) for (start, end, _), value in zip(net[2], values)]
                        self.assertEqual(twin_of(net, weights, side, k), ("net", net[1], tuple(rows)))

    def test_a_net_of_many_marks(self):
        net = ("net", NAMES, tuple((mark, (mark + 1) % 16, 9) for mark in range(16)))
        told = [0] * 16
        told[0], told[15] = 1, -1
        rows = tuple((mark, (mark + 1) % 16, told[mark]) for mark in range(16))
        self.assertEqual(twin_of(net, (7,) * 16, tuple(range(1, 16)), 2), ("net", NAMES, rows))

    def test_broken_sides_are_seen_by_their_twins(self):
        for heaviest in (1, 2, 5):
            for net, weights in nets_with_weights(71, 40, heaviest, most_marks=5, most_readings=9):
                for k in range(1, 4):
                    side = broken_side(net, weights, k)
                    if side:
                        twin = twin_of(net, weights, side, k)
                        raised = tuple(int(mark in side) for mark in range(len(net[1])))
                        self.assertLessEqual(sum(value != 0 for _, _, value in twin[2]), k)
                        self.assertLessEqual(weighted_cost(twin, weights, raised),
                                             weighted_cost(twin, weights, (0,) * len(net[1])))

    def test_in_firm_nets_the_true_heights_alone_are_best(self):
        draw = random.Random(72)
        for net, weights in nets_with_weights(72, 200, 3, most_marks=3, most_readings=12):
            k = firmness(net, weights)
            if k > 0:
                truth = (0,) + tuple(draw.randint(-3, 3) for _ in net[1][1:])
                lying = draw.sample(range(len(net[2])), k)
                rows = [(start, end, truth[end] - truth[start] + (draw.randint(-3, 3) if index in lying else 0))
                        for index, (start, end, _) in enumerate(net[2])]
                made = ("net", net[1], tuple(rows))
                self.assertEqual(weighted_paper(made, weights)[1], truth)
                costs = sorted(sum_of_misses(made, heights, weights) for heights in all_heights(made, 6))
                self.assertEqual(costs[0], sum_of_misses(made, truth, weights))
                self.assertLess(costs[0], costs[1])


if __name__ == "__main__":
    unittest.main()
