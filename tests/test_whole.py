"""c0: what the whole program is for, from a text of readings to what is sure of them."""

import random
import unittest

from helpers import (best_by_search, cut_by_hand, drawn_net, edge_nets, lies_by_hand, paper_is_right, plan_is_right,
                     small_nets, strength_by_sides, with_lies)
from truelevels.adjust import best_paper
from truelevels.asks import asks, followed
from truelevels.classes import is_sure
from truelevels.cuts import strength, strength_paper
from truelevels.desk import Desk
from truelevels.judge import judge
from truelevels.logs import mended, read_log, replay, shown_log
from truelevels.misses import lies
from truelevels.more import plan_of
from truelevels.near import bound, doubts, far_apart
from truelevels.nets import check_net
from truelevels.planjudge import judge_plan
from truelevels.reports import report
from truelevels.rings import are_seen, closings, explanations
from truelevels.spans import is_one, spans
from truelevels.text import parse, shown
from truelevels.trusted import fewest_trusted, is_safe_with, trusted_best
from truelevels.weights import firmness, weighted_paper
from truelevels.worlds import is_safe, most_lies, twins, verdicts, worlds


def true_and_told(seed, many):
    """Nets with true heights, and values of which just k lie; k is told too."""
    draw = random.Random(seed)
    nets = small_nets(seed, many, most_marks=6, most_readings=20)
    nets += [drawn_net(draw, draw.randint(3, 12), draw.randint(20, 80), 9) for _ in range(many // 4)]
    for net in nets:
        heights = (0,) + tuple(draw.randint(-500, 500) for _ in net[1][1:])
        k = draw.randint(0, 3)
        yield with_lies(draw, net, heights, k, draw.choice((1, 5, 1000))), heights, k


class TrueHeights(unittest.TestCase):
    def test_best_heights_are_the_true_ones_where_every_cut_has_2_k_and_1_readings(self):
        seen = set()
        for net, heights, k in true_and_told(320, 80):
            check_net(net)
            paper = best_paper(net)
            self.assertIs(judge(net, paper), True)
            self.assertTrue(paper_is_right(net, paper))
            self.assertIs(judge(net, strength_paper(net)), True)
            safe = is_safe(net, k)
            if len(net[1]) <= 6:
                size = strength_by_sides(net)
                self.assertIs(safe, size == -1 or size >= 2 * k + 1)
            seen.add((safe, k))
            if safe:
                self.assertEqual(paper[1], heights)
                self.assertIs(is_one(net), True)
                self.assertEqual(worlds(net, k), (heights,))
                self.assertEqual(lies(net, paper[1]), lies_by_hand(net, heights))
                self.assertEqual(twins(net, k), ())
            else:
                _, other, first, second = twins(net, k)
                self.assertNotEqual(first, second)
                self.assertEqual([row[:2] for row in other[2]], [row[:2] for row in net[2]])
                for world in (first, second):
                    self.assertLessEqual(len(lies_by_hand(other, world)), k)
        self.assertEqual(seen, {(safe, k) for safe in (True, False) for k in range(4)} - {(False, 0)})

    def test_the_most_lies_are_the_last_ones_that_are_stood(self):
        for net, _, _ in true_and_told(321, 60):
            most = most_lies(net)
            if len(net[1]) > 1:
                self.assertTrue(is_safe(net, most) and not is_safe(net, most + 1))
                self.assertEqual(firmness(net, (1,) * len(net[2])), most) if len(net[1]) <= 12 else None

    def test_what_surely_lies_lies(self):
        for net, heights, k in true_and_told(322, 80):
            if len(net[1]) == 1 or strength(net) > k:
                for index, word in enumerate(verdicts(net, k)):
                    if word != "open":
                        self.assertIs(word == "lies", index in lies_by_hand(net, heights))
            self.assertTrue(set(doubts(net, k, 0, best_paper(net)[1])) <= set(lies_by_hand(net, heights)))
            if are_seen(net, k):
                self.assertIs(any(closings(net)), len(lies_by_hand(net, heights)) > 0)
            if len(net[2]) <= 20 and k <= 2:
                told = explanations(net, k)
                self.assertTrue(any(set(less) <= set(lies_by_hand(net, heights)) for less in told))

    def test_what_is_sure_is_right(self):
        for net, heights, k in true_and_told(323, 80):
            best = best_paper(net)[1]
            for mark in range(1, len(net[1])):
                if is_sure(net, k, 0, mark):
                    self.assertEqual(best[mark], heights[mark])
                    self.assertEqual(spans(net)[mark], (heights[mark], heights[mark]))
            if bound(net, k, 0) >= 0:
                self.assertEqual(far_apart(heights, best), 0)

    def test_readings_read_once_more_lead_to_the_true_heights(self):
        asked = 0
        for net, heights, k in true_and_told(324, 120):
            # With more lies than there are, there are more worlds, the true one still among them.
            for most in {k, max(k, strength(net) - 1)}:
                if (len(net[1]) == 1 or strength(net) > most) and len(worlds(net, most)) <= 12:
                    tree = asks(net, most)
                    asked += tree[0] == "ask"
                    self.assertEqual(followed(net, tree, heights), heights)
        self.assertGreater(asked, 9)

    def test_trusted_readings_make_a_net_safe(self):
        for net, heights, k in true_and_told(325, 80):
            if len(net[2]) <= 12:
                trusted = fewest_trusted(net, k)
                if not set(trusted) & set(lies_by_hand(net, heights)):
                    self.assertIs(is_safe_with(net, trusted, k), True)
                    self.assertEqual(trusted_best(net, trusted), heights)

    def test_further_readings_make_a_net_safe(self):
        for net, heights, k in true_and_told(326, 60):
            t = max(2, 2 * k + 1)
            plan = plan_of(net, t)
            self.assertIs(judge_plan(net, t, plan), True)
            self.assertTrue(plan_is_right(net, t, plan))
            more = tuple((one, other, heights[other] - heights[one]) for one, other in plan[1])
            self.assertEqual(best_paper((net[0], net[1], net[2] + more))[1], heights)

    def test_equal_weights_change_nothing(self):
        for net, heights, k in true_and_told(327, 40):
            if is_safe(net, k):
                self.assertEqual(weighted_paper(net, (3,) * len(net[2]))[1], heights)


class FromTextToDesk(unittest.TestCase):
    def test_texts_nets_and_reports(self):
        for net, _, _ in true_and_told(328, 40):
            self.assertEqual(parse(shown(net)), net)
            self.assertTrue(report(net).startswith(f"{net[1][0]} 0"))

    def test_a_desk_keeps_the_net_of_a_text(self):
        for net, heights, k in true_and_told(329, 40):
            desk = Desk()
            for name in net[1]:
                desk.do(("mark", name))
            for start, end, value in net[2]:
                desk.do(("read", net[1][start], net[1][end], value))
            desk.do(("bound", k))
            self.assertEqual(desk.net(), net)
            if desk.is_safe():
                self.assertEqual(desk.heights(), tuple(zip(net[1], heights)))
                lying = [number for number, word in desk.verdicts() if word == "lies"]
                self.assertEqual(tuple(lying), lies_by_hand(net, heights))
                # Without what lies, all else is kept.
                for number in lying:
                    desk.do(("drop", number))
                self.assertEqual(desk.heights(), tuple(zip(net[1], heights)))
                self.assertFalse(any(closings(desk.net())))
            text = shown_log(desk.log())
            self.assertEqual(replay(read_log(text)).net(), desk.net())
            self.assertEqual(mended(text + "mar")[0], desk.log())


class AtTheBounds(unittest.TestCase):
    def test_sixteen_marks_and_eighty_readings(self):
        draw = random.Random(330)
        for net in edge_nets(330):
            heights = (0,) + tuple(draw.randint(-400000, 400000) for _ in net[1][1:])
            k = max(0, most_lies(net))
            told = with_lies(draw, net, heights, k, 100000)
            check_net(told)
            self.assertEqual(best_paper(told)[1], heights)
            self.assertEqual(worlds(told, k), (heights,))
            self.assertEqual(len(lies_by_hand(told, heights)), min(k, len(net[2])))

    def test_one_lie_more_than_a_net_stands(self):
        for net in small_nets(331, 60, most_marks=4, most_readings=8):
            if len(net[1]) > 1:
                k = most_lies(net) + 1
                side, other, first, second = twins(net, k)
                self.assertLessEqual(len(cut_by_hand(net, side)), 2 * k)
                self.assertTrue(any(best != first for best in best_by_search(other, 1)))
                self.assertNotEqual(first, second)


if __name__ == "__main__":
    unittest.main()
