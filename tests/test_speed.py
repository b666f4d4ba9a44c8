"""Nets at the bounds are answered within a second or so; slower machines are given some time more."""

import random
import time
import unittest

from helpers import NAMES, drawn_net, edge_nets, kept_values, lies_by_hand, with_lies
from truelevels.adjust import best_paper
from truelevels.asks import asks
from truelevels.bridges import best_further, bridges, halves, unseen
from truelevels.checks import check_heights, check_indices, check_side
from truelevels.classes import classes, is_sure, sure_against, sure_heights
from truelevels.cuts import strength
from truelevels.desk import Desk
from truelevels.errors import BadEntry, BadState
from truelevels.leastcuts import best_pair, least_cuts, weak_readings
from truelevels.logs import mended, read_log, replay, shown_log
from truelevels.more import lack, plan_of
from truelevels.near import bound, doubts, far_apart, is_near
from truelevels.papertext import parse_paper, shown_paper
from truelevels.planjudge import judge_plan
from truelevels.profile import profile
from truelevels.reports import report
from truelevels.rings import are_seen, closings, explanations, is_ring, rings
from truelevels.tree import cut_tree, least_size
from truelevels.trusted import fewest_trusted, heights_of, homes, is_safe_with, merged, sure_lies, trusted_best
from truelevels.waytext import sure_text, ways_text
from truelevels.worlds import is_safe, is_world, most_lies, twins, verdicts, worlds

SECONDS = 3


def even_net(draw, many, rounds, values):
    """A net made of rings through all of its marks, and so as strong as it can be for its readings."""
    rows = []
    for _ in range(rounds):
        marks = draw.sample(range(many), many)
        rows += [(one, other, draw.choice(values)) for one, other in zip(marks, marks[1:] + marks[:1])]
    return ("net", NAMES[:many], tuple(rows))


def great_nets(seed):
    """Nets with 80 readings."""
    draw = random.Random(seed)
    nets = [net for net in edge_nets(seed) if len(net[2]) == 80]
    for values in ((0,), (0, 0, 0, 0, 0, 1), (0, 1), tuple(range(-1000, 1000))):
        nets.append(even_net(draw, 16, 5, values))
        nets.append(even_net(draw, 8, 10, values))
        nets.append(even_net(draw, 4, 20, values))
    return nets


class Timed(unittest.TestCase):
    def quick(self, function, *arguments):
        """Call a function, and check that it does not take long."""
        start = time.perf_counter()
        try:
            told = function(*arguments)
        except BadState:
            told = None
        self.assertLess(time.perf_counter() - start, SECONDS, (str(function), str(arguments)[:2000]))
        return told


class Speed(Timed):
    def test_trees_of_cuts_and_classes(self):
        for net in great_nets(110):
            tree = self.quick(cut_tree, net)
            last = len(net[1]) - 1
            self.quick(least_size, tree, 0, last)
            self.quick(sure_against, net, 0, last)
            for k in (0, 1, 4, 40):
                self.quick(classes, net, k + 1)
                self.quick(is_sure, net, k, last, 0)
                self.quick(sure_heights, net, k, tuple(range(last + 1)))

    def test_worlds(self):
        draw = random.Random(111)
        for net in great_nets(111):
            size = strength(net)
            heights = (0,) + tuple(draw.randint(-9, 9) for _ in net[1][1:])
            self.quick(is_safe, net, 3)
            self.quick(most_lies, net)
            for k in sorted({0, 1, 2, 3, 4, size // 2, size - 1, size}):
                for told in (net, with_lies(draw, net, heights, k, 3), with_lies(draw, net, heights, k + 3, 1)):
                    self.quick(is_world, told, k, heights)
                    self.quick(worlds, told, k)
                    self.quick(verdicts, told, k)
                    self.quick(twins, told, k)

    def test_worlds_where_much_is_open(self):
        # Each mark of the ring can be raised, or not, by its readings to both sides.
        for value in (1, 1000000):
            rows = tuple((mark, (mark + 1) % 16, value * (turn < 2)) for turn in range(5) for mark in range(16))
            for k in range(10):
                self.quick(worlds, ("net", NAMES, rows), k)

    def test_least_cuts(self):
        draw = random.Random(112)
        ring = ("net", NAMES[:12], tuple((mark, (mark + 1) % 12, 5) for mark in range(12)) * 6)
        for net in (ring, drawn_net(draw, 12, 80, 9), even_net(draw, 12, 6, (0, 1))):
            for function in (least_cuts, weak_readings, best_pair):
                self.quick(function, net)

    def test_asks(self):
        draw = random.Random(113)
        for net in great_nets(113):
            size = strength(net)
            heights = (0,) + tuple(draw.randint(-9, 9) for _ in net[1][1:])
            for k in sorted({0, 1, size // 2, size - 1}):
                for told in (net, with_lies(draw, net, heights, k, 3)):
                    self.quick(asks, told, k)

    def test_profiles_and_texts(self):
        for net in great_nets(114):
            last = len(net[1]) - 1
            paper = best_paper(net)
            self.quick(profile, net, paper[1])
            self.quick(parse_paper, net, self.quick(shown_paper, paper))
            self.quick(ways_text, net, 0, last)
            self.quick(ways_text, net, last, 0)
            for k in (0, 1, 40):
                self.quick(sure_text, net, k, paper[1])

    def test_bridges(self):
        draw = random.Random(115)
        for net in great_nets(115) + [drawn_net(draw, 16, many, 9) for many in (0, 18, 80)]:
            for index in self.quick(bridges, net):
                self.quick(halves, net, index)
            self.quick(unseen, net, 0, 5)
            self.quick(best_further, net)

    def test_checks(self):
        for net in great_nets(116):
            marks = tuple(range(len(net[1])))
            self.quick(check_heights, net, tuple(mark * 1000000 for mark in marks))
            self.quick(check_side, net, marks[1:])
            self.quick(check_indices, net, tuple(range(80)))

    def test_rings(self):
        for net in great_nets(117):
            self.quick(closings, net)
            for ring in self.quick(rings, net):
                self.quick(is_ring, net, ring)
            for k in (0, 4, 80):
                self.quick(are_seen, net, k)

    def test_explanations(self):
        draw = random.Random(118)
        for k, most in ((2, 80), (3, 49), (4, 26), (5, 19), (6, 16), (7, 15), (15, 14)):
            for many in (2, 3, 5, 9, 12, 16):
                for net in (drawn_net(draw, many, most, 2), drawn_net(draw, many, most, 1000000)):
                    heights = tuple(7 * mark for mark in range(len(net[1])))
                    for told in (net, kept_values(net, heights), with_lies(draw, net, heights, k, 1000)):
                        self.quick(explanations, told, k)
            ring = ("net", NAMES[:most], tuple((mark % 16, (mark + 1) % 16, mark) for mark in range(most)))
            if most >= 16:
                self.quick(explanations, ring, k)

    def test_near_levels(self):
        for net in great_nets(119):
            heights = tuple(7 * mark for mark in range(len(net[1])))
            self.quick(far_apart, heights, heights[::-1])
            for k in (0, 1, 4, 40):
                self.quick(bound, net, k, 1000)
                self.quick(is_near, net, k, 1000, heights)
                self.quick(doubts, net, k, 1000, heights)

    def test_trusted_readings(self):
        draw = random.Random(120)
        for net in great_nets(120):
            heights = tuple(7 * mark for mark in range(len(net[1])))
            told = with_lies(draw, net, heights, 40, 1000)
            for many in (0, 3, 10, 40):
                kept = [index for index in range(80) if index not in lies_by_hand(told, heights)]
                trusted = tuple(kept[:many])
                for function in (homes, merged, trusted_best, sure_lies):
                    self.quick(function, told, trusted)
                self.quick(heights_of, told, trusted, heights)
                self.quick(is_safe_with, told, trusted, 2)

    def test_fewest_trusted(self):
        draw = random.Random(121)
        rows = [("net", NAMES[:13], tuple((mark, mark + 1, 3) for mark in range(12))),
                ("net", NAMES[:12], tuple((mark, (mark + 1) % 12, 3) for mark in range(12)))]
        for net in rows + [drawn_net(draw, many, 12, 1000000) for many in range(2, 14) for _ in range(3)]:
            for k in (0, 1, 2, 3, 6):
                self.quick(fewest_trusted, net, k)

    def test_plans(self):
        draw = random.Random(122)
        row = ("net", NAMES, tuple((mark, mark + 1, 5) for mark in range(15)))
        star = ("net", NAMES, tuple((0, mark, 5) for mark in range(1, 16)))
        ring = ("net", NAMES, row[2] + ((15, 0, 5),))
        pairs = ("net", NAMES, row[2] + tuple((mark, mark + 1, 5) for mark in range(0, 16, 2)) * 8)
        for net in [row, star, ring, pairs] + great_nets(122) + [drawn_net(draw, 16, many, 9) for many in (18, 30, 50)]:
            for t in (2, 3, 5, 9, 10, 11, 15, 19, 20):
                plan = self.quick(plan_of, net, t)
                self.assertIs(self.quick(judge_plan, net, t, plan), True)
                self.quick(lack, net, t, tuple(range(1, len(net[1]))))

    def test_reports(self):
        for net in great_nets(123):
            self.quick(report, net)


class DesksOf1000Entries(Timed):
    def logs(self):
        """Logs of 1,000 entries."""
        draw = random.Random(124)
        yield (("mark", "a"),) + tuple(("bound", n % 21) for n in range(999))
        marks = tuple(("mark", name) for name in NAMES)
        entries = list(marks)
        present = []
        for number in range(492):
            start, end = draw.sample(NAMES, 2)
            entries.append(("read", start, end, draw.randint(-1000000, 1000000)))
            present.append(number)
            if number >= 79:
                entries.append(("drop", present.pop(draw.randrange(len(present)))))
        while len(entries) < 1000:
            entries.append(("bound", len(entries) % 21))
        yield tuple(entries[:1000])

    def test_replaying_reading_and_undoing(self):
        for log in self.logs():
            self.assertEqual(len(log), 1000)
            text = self.quick(shown_log, log)
            self.assertEqual(self.quick(read_log, text), log)
            self.assertEqual(self.quick(mended, text[:-1]), (log[:-1], text[:-1].rfind("\n") + 1))
            desk = self.quick(replay, log)
            self.quick(self.undo_all, desk)
            self.assertEqual(desk.log(), ())

    def undo_all(self, desk):
        """Take all entries back, and look at the desk now and then."""
        for count in range(1000, 0, -1):
            if count % 50 == 0:
                self.assertEqual(len(desk.log()), count)
                desk.parts()
            desk.undo()

    def test_answers_of_a_full_desk(self):
        for log in self.logs():
            desk = replay(log)
            for method in (desk.net, desk.numbers, desk.bound, desk.parts, desk.heights, desk.spans, desk.strength,
                           desk.is_safe, desk.verdicts, desk.log):
                self.quick(method)

    def test_doing_deed_by_deed(self):
        for log in self.logs():
            self.quick(self.do_all, Desk(), log)

    def do_all(self, desk, log):
        """Do all deeds of a log, each behind one that is refused."""
        for deed in log:
            with self.assertRaises(BadEntry):
                desk.do(("bound", 21))
            desk.do(deed)


if __name__ == "__main__":
    unittest.main()
