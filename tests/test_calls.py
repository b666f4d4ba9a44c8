"""c1: nothing that is handed in is changed, and the same arguments give the same answers."""

import copy
import unittest

from helpers import LONE, PAIR, RING, TRIANGLE, edge_nets, parts_of, small_nets
from truelevels.adjust import best_paper
from truelevels.asks import asks, depth_of, followed
from truelevels.bridges import best_further, bridges, halves, unseen
from truelevels.checks import check_heights, check_indices, check_side
from truelevels.classes import classes, is_sure, sure_against, sure_heights
from truelevels.cuts import cut_of, least_cut, strength, strength_paper
from truelevels.desk import Desk
from truelevels.errors import LevelError
from truelevels.judge import is_even, judge, worth
from truelevels.leastcuts import best_pair, least_cuts, weak_readings
from truelevels.logs import mended, read_log, replay, shown_log
from truelevels.misses import cost, lies, miss_of, misses
from truelevels.more import lack, plan_of
from truelevels.near import bound, doubts, far_apart, is_near
from truelevels.nets import check_net, is_joined, reached
from truelevels.papertext import parse_paper, shown_paper
from truelevels.planjudge import judge_plan
from truelevels.profile import profile
from truelevels.reports import report
from truelevels.rings import are_seen, closing, closings, explanations, is_ring, rings
from truelevels.spans import is_one, spans
from truelevels.text import parse, shown
from truelevels.tree import cut_tree, least_size
from truelevels.trusted import fewest_trusted, heights_of, homes, is_safe_with, merged, sure_lies, trusted_best
from truelevels.waytext import sure_text, ways_text
from truelevels.weights import (broken_side, check_weights, firmness, judge_weighted, twin_of, weighted_cost,
                                weighted_paper)
from truelevels.worlds import is_safe, is_world, most_lies, twins, verdicts, worlds

NETS = [LONE, PAIR, TRIANGLE, RING] + small_nets(9, 12) + edge_nets(9)[:2]
TEXTS = ["marks a", "marks a b\na to b is 7", "marks a b", "marks a a", "", "%", "marks a b\na to b is 7\nx"]
THINGS = [["net", ("a",), ()], ("net", ["a", "b"], [[0, 1, 7]]), ("net", ("a", "b"), ([0, 1, True],)),
          [[], [[]], None, "net"], ("net", ("a", []), ([],)), ("net", ("b", "a"), ())]
PAPERS = [["best", [0, 7], [0, 1, 1]], ("best", (0, 7), [0, 1, 1]), ("strength", 3, [1], [[[0], [1], [2]]]),
          ("weighted", [0, 7], [0, 1, 1]), [], [[1], [2], [3]], (3, [2], 1)]


def answer(function, arguments):
    """What a call gives back, or the kind and the fields of what it raises."""
    try:
        return ("gives", function(*arguments))
    except LevelError as error:
        return ("raises", type(error).__name__) + tuple(sorted(vars(error).items()))


def calls():
    """Functions with arguments."""
    for net in NETS:
        heights = tuple(range(len(net[1])))
        yield check_net, (net,)
        yield is_joined, (net[1], net[2])
        yield reached, (len(net[1]), net[2], len(net[1]) - 1)
        yield shown, (net,)
        yield parse, (shown(net),)
        yield from [(function, (net, heights)) for function in (misses, cost, lies)]
        yield from [(miss_of, (reading, heights)) for reading in net[2]]
        yield from calls_by_flows_and_cuts(net, heights)
        yield from calls_by_worlds_and_classes(net, heights)
        yield from calls_by_asks_and_texts(net, heights)
        yield from calls_by_rings_and_noise(net, heights)
        yield from calls_by_trusted(net, heights)
        yield from calls_by_plans_and_reports(net)
    yield from calls_by_logs()
    yield from [(parse, (text,)) for text in TEXTS]
    yield from [(check_net, (thing,)) for thing in THINGS]
    for thing in THINGS + PAPERS + [[0, 7], (0, 7), [1], (1,), [0, 2], (0, 2), ([0], [1])]:
        yield from [(function, (PAIR, thing)) for function in (check_heights, check_side, check_indices)]
    for paper in PAPERS:
        yield judge, (PAIR, paper)
        yield judge_weighted, (PAIR, (1, 2, 3), paper)
        yield check_weights, (PAIR, paper)


def calls_by_flows_and_cuts(net, heights):
    """Functions on adjusting, spans, cuts and weights with arguments."""
    weights = tuple(1 + 37 * index % 100 for index in range(len(net[2])))
    yield from [(function, (net,)) for function in (best_paper, spans, is_one, strength, strength_paper)]
    yield from [(function, (net, weights)) for function in (check_weights, weighted_paper, firmness)]
    yield from [(broken_side, (net, weights, k)) for k in (0, 1, 2, 99)]
    yield weighted_cost, (net, weights, heights)
    yield from [(function, (net, weights)) for function in (is_even, worth)]
    yield from [(judge, (net, paper)) for paper in (best_paper(net), strength_paper(net), ["best", [heights], weights])]
    for paper in (weighted_paper(net, weights), ["weighted", [heights], weights]):
        yield judge_weighted, (net, weights, paper)
    if len(net[1]) > 1:
        last = len(net[1]) - 1
        yield cut_of, (net, (last,))
        yield twin_of, (net, weights, (last,), 2)
        yield least_cut, (net, 0, last)
        yield least_cut, (net, last, 0)


def calls_by_worlds_and_classes(net, heights):
    """Functions on trees of cuts, worlds, sure differences and least cuts with arguments."""
    yield from [(function, (net,)) for function in (cut_tree, most_lies, least_cuts, weak_readings, best_pair)]
    for k in (0, 1, 2, 99):
        yield from [(function, (net, k)) for function in (worlds, verdicts, is_safe, twins)]
        yield from [(function, (net, k, heights)) for function in (is_world, sure_heights)]
        yield classes, (net, k + 1)
    if len(net[1]) > 1:
        last = len(net[1]) - 1
        for one, other in ((0, last), (last, 0)):
            yield least_size, (cut_tree(net), one, other)
            yield is_sure, (net, 1, one, other)
            yield sure_against, (net, one, other)


def calls_by_asks_and_texts(net, heights):
    """Functions on asks, profiles, texts of papers and of ways, and bridges with arguments."""
    for k in (0, 1, 2, 99):
        yield asks, (net, k)
        yield sure_text, (net, k, heights)
    tree = ("ask", 0, ((1, ("world", heights)), (2, ("ask", 1, ((1, ("world", heights[::-1])),)))))
    yield depth_of, (tree,)
    yield followed, (net, tree if len(net[2]) > 1 else tree[2][0][1], heights)
    yield profile, (net, heights)
    paper = best_paper(net)
    yield shown_paper, (paper,)
    for text in (shown_paper(paper), "best\nheights 0\nflow\n", "best\n", ""):
        yield parse_paper, (net, text)
    yield from [(function, (net,)) for function in (bridges, best_further)]
    yield from [(halves, (net, index)) for index in bridges(net)]
    yield from [(unseen, (net, index, 3)) for index in range(len(net[2]))]
    if len(net[1]) > 1:
        yield ways_text, (net, 0, len(net[1]) - 1)
        yield ways_text, (net, len(net[1]) - 1, 0)


def calls_by_rings_and_noise(net, heights):
    """Functions on rings and near levels with arguments."""
    yield from [(function, (net,)) for function in (rings, closings)]
    for ring in rings(net)[:5]:
        yield from [(function, (net, ring)) for function in (closing, is_ring)]
        yield is_ring, (net, ring[::-1])
    for k in (0, 1, 2, 3, 99):
        yield from [(function, (net, k)) for function in (are_seen, explanations)]
        yield bound, (net, k, 3)
        yield from [(function, (net, k, 3, heights)) for function in (is_near, doubts)]
    yield far_apart, (heights, heights[::-1])


def calls_by_trusted(net, heights):
    """Functions on trusted readings with arguments."""
    for trusted in ((), (0,), (0, 1), tuple(range(len(net[2])))):
        if len(trusted) <= len(net[2]):
            yield from [(function, (net, trusted)) for function in (homes, merged, trusted_best, sure_lies)]
            yield heights_of, (net, trusted, heights)
            yield is_safe_with, (net, trusted, 1)
    yield from [(fewest_trusted, (net, k)) for k in (0, 1, 2)]


def calls_by_plans_and_reports(net):
    """Functions on further readings and reports with arguments."""
    for t in (2, 3, 20):
        yield plan_of, (net, t)
        yield judge_plan, (net, t, plan_of(net, t))
        yield judge_plan, (net, t, ["plan", [[0, 1]], [[0], [1]]])
        yield judge_plan, (net, t, ("plan", ([0, 1],), ((0,), [1])))
        if len(net[1]) > 1:
            yield lack, (net, t, (0, len(net[1]) - 1) if len(net[1]) > 2 else (1,))
    yield report, (net,)


def calls_by_logs():
    """Functions on logs with arguments, desks in the shape of what they tell."""
    for text in ("", "mark a\nmark b\nread a b 7\ndrop 0\nbound 3\n", "mark a\nmark", "mark a\nmark a\n", "x"):
        yield from [(function, (text,)) for function in (mended, read_log)]
        yield shown_log, (mended(text)[0],)
        yield told_after, (mended(text)[0],)
    for log in (["mark", "a"], [["mark", "a"], ("bound", 1)], (("mark", "a"), ["mark", "b"]), (("bound", 1), None)):
        yield told_after, (log,)


def told_after(log):
    """What the desk of a log tells of itself."""
    desk = replay(log)
    return (desk.log(), desk.numbers(), desk.bound(), desk.parts())


class Calls(unittest.TestCase):
    def test_arguments_are_not_changed(self):
        for function, arguments in calls():
            kept = copy.deepcopy(arguments)
            answer(function, arguments)
            self.assertEqual(repr(arguments), repr(kept))

    def test_the_same_arguments_give_the_same_answers(self):
        made = list(calls())
        first = [answer(function, copy.deepcopy(arguments)) for function, arguments in made]
        second = [answer(function, copy.deepcopy(arguments)) for function, arguments in made[::-1]]
        self.assertEqual(first, second[::-1])

    def test_answers_are_made_of_tuples_texts_and_integers(self):
        for function, arguments in calls():
            for part in parts_of(answer(function, arguments)):
                self.assertIn(type(part), (tuple, str, int, bool, type(None)))

    def test_desks_do_not_change_what_they_are_handed(self):
        deeds = [("mark", "a"), ["mark", "b"], ("mark", ["b"]), ("mark", "b"), ("read", "a", "b", [5]), ("bound", None)]
        kept = copy.deepcopy(deeds)
        desk = Desk()
        for deed in deeds:
            answer(desk.do, (deed,))
        self.assertEqual(repr(deeds), repr(kept))
        self.assertEqual(desk.log(), (("mark", "a"), ("mark", "b")))

    def test_what_desks_give_is_made_of_tuples_texts_and_integers(self):
        desk = replay(mended("mark a\nmark b\nread a b 7\nread b a -9\nread a b 8\nbound 1\n")[0])
        for method in (desk.log, desk.net, desk.numbers, desk.bound, desk.parts, desk.heights, desk.spans, desk.strength,
                       desk.is_safe, desk.verdicts):
            for part in parts_of(method()):
                self.assertIn(type(part), (tuple, str, int, bool))
            self.assertEqual(method(), method())


if __name__ == "__main__":
    unittest.main()
