"""Nets at the bounds are answered within a second or so; slower machines are given some time more."""

import random
import time
import unittest

from helpers import NAMES, drawn_net, edge_nets, with_lies
from truelevels.adjust import best_paper
from truelevels.asks import asks
from truelevels.bridges import best_further, bridges, halves, unseen
from truelevels.classes import classes, is_sure, sure_against, sure_heights
from truelevels.cuts import strength
from truelevels.errors import BadState
from truelevels.leastcuts import best_pair, least_cuts, weak_readings
from truelevels.papertext import parse_paper, shown_paper
from truelevels.profile import profile
from truelevels.tree import cut_tree, least_size
from truelevels.waytext import sure_text, ways_text
from truelevels.worlds import is_safe, is_world, most_lies, twins, verdicts, worlds

SECONDS = 3


def even_net(draw, many, rounds, values):
    """A net made of rings through all of its marks, and so as strong as it can be for its readings."""
    rows = []
    for _ in range(rounds):
        marks = draw.sample(range(many), many)
        rows += [(one, other, draw.choice(values)) for one, other in zip(marks, marks[1:] + marks[:1])]
    return ("net", NAMES[:many], tuple(rows))


def great_nets(seed):
    """Nets with 80 readings."""
    draw = random.Random(seed)
    nets = [net for net in edge_nets(seed) if len(net[2]) == 80]
    for values in ((0,), (0, 0, 0, 0, 0, 1), (0, 1), tuple(range(-1000, 1000))):
        nets.append(even_net(draw, 16, 5, values))
        nets.append(even_net(draw, 8, 10, values))
        nets.append(even_net(draw, 4, 20, values))
    return nets


class Timed(unittest.TestCase):
    def quick(self, function, *arguments):
        """Call a function, and check that it does not take long."""
        start = time.perf_counter()
        try:
            told = function(*arguments)
        except BadState:
            told = None
        self.assertLess(time.perf_counter() - start, SECONDS, (function.__name__, arguments))
        return told


class Speed(Timed):
    def test_trees_of_cuts_and_classes(self):
        for net in great_nets(110):
            tree = self.quick(cut_tree, net)
            last = len(net[1]) - 1
            self.quick(least_size, tree, 0, last)
            self.quick(sure_against, net, 0, last)
            for k in (0, 1, 4, 40):
                self.quick(classes, net, k + 1)
                self.quick(is_sure, net, k, last, 0)
                self.quick(sure_heights, net, k, tuple(range(last + 1)))

    def test_worlds(self):
        draw = random.Random(111)
        for net in great_nets(111):
            size = strength(net)
            heights = (0,) + tuple(draw.randint(-9, 9) for _ in net[1][1:])
            self.quick(is_safe, net, 3)
            self.quick(most_lies, net)
            for k in sorted({0, 1, 2, 3, 4, size // 2, size - 1, size}):
                for told in (net, with_lies(draw, net, heights, k, 3), with_lies(draw, net, heights, k + 3, 1)):
                    self.quick(is_world, told, k, heights)
                    self.quick(worlds, told, k)
                    self.quick(verdicts, told, k)
                    self.quick(twins, told, k)

    def test_worlds_where_much_is_open(self):
        # Each mark of the ring can be raised, or not, by its readings to both sides.
        for value in (1, 1000000):
            rows = tuple((mark, (mark + 1) % 16, value * (turn < 2)) for turn in range(5) for mark in range(16))
            for k in range(10):
                self.quick(worlds, ("net", NAMES, rows), k)

    def test_least_cuts(self):
        draw = random.Random(112)
        ring = ("net", NAMES[:12], tuple((mark, (mark + 1) % 12, 5) for mark in range(12)) * 6)
        for net in (ring, drawn_net(draw, 12, 80, 9), even_net(draw, 12, 6, (0, 1))):
            for function in (least_cuts, weak_readings, best_pair):
                self.quick(function, net)

    def test_asks(self):
        draw = random.Random(113)
        for net in great_nets(113):
            size = strength(net)
            heights = (0,) + tuple(draw.randint(-9, 9) for _ in net[1][1:])
            for k in sorted({0, 1, size // 2, size - 1}):
                for told in (net, with_lies(draw, net, heights, k, 3)):
                    self.quick(asks, told, k)

    def test_profiles_and_texts(self):
        for net in great_nets(114):
            last = len(net[1]) - 1
            paper = best_paper(net)
            self.quick(profile, net, paper[1])
            self.quick(parse_paper, net, self.quick(shown_paper, paper))
            self.quick(ways_text, net, 0, last)
            self.quick(ways_text, net, last, 0)
            for k in (0, 1, 40):
                self.quick(sure_text, net, k, paper[1])

    def test_bridges(self):
        draw = random.Random(115)
        for net in great_nets(115) + [drawn_net(draw, 16, many, 9) for many in (0, 18, 80)]:
            for index in self.quick(bridges, net):
                self.quick(halves, net, index)
            self.quick(unseen, net, 0, 5)
            self.quick(best_further, net)


if __name__ == "__main__":
    unittest.main()
