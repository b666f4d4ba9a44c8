"""truelevels.spans: b1 and b2."""

import random
import unittest

from helpers import LONE, PAIR, RING, TRIANGLE, best_by_search, drawn_net, edge_nets, small_nets
from truelevels.adjust import best_paper
from truelevels.spans import is_one, spans


def spans_by_search(net, reach):
    """The spans, and whether there is one tuple of best heights, by a search over all heights."""
    best = best_by_search(net, reach)
    return tuple((min(row), max(row)) for row in zip(*best)), len(best) == 1


def spans_by_flow(net, flow):
    """The spans that b2 tells for a flow: the closest bounds on the differences of all pairs of marks."""
    marks = range(len(net[1]))
    most = [[0 if one == other else None for other in marks] for one in marks]

    def bound(one, other, rise):
        if most[one][other] is None or rise < most[one][other]:
            most[one][other] = rise

    for (start, end, value), amount in zip(net[2], flow):
        if amount >= 0:
            bound(start, end, value)
        if amount <= 0:
            bound(end, start, -value)
    for mark in marks:
        for one in marks:
            for other in marks:
                if most[one][mark] is not None and most[mark][other] is not None:
                    bound(one, other, most[one][mark] + most[mark][other])
    return tuple((-most[mark][0], most[0][mark]) for mark in marks)


class Spans(unittest.TestCase):
    def has(self, net, told, one):
        self.assertEqual(spans(net), told)
        self.assertIs(is_one(net), one)

    def test_one_mark(self):
        self.has(LONE, ((0, 0),), True)

    def test_a_net_that_all_readings_keep(self):
        self.has(TRIANGLE, ((0, 0), (4, 4), (9, 9)), True)
        self.has(("net", ("a", "b", "c"), ((1, 0, -5), (2, 1, 8))), ((0, 0), (5, 5), (-3, -3)), True)

    def test_a_lie_that_is_outvoted(self):
        self.has(PAIR, ((0, 0), (7, 7)), True)

    def test_several_best_heights(self):
        self.has(("net", ("a", "b"), ((0, 1, 7), (0, 1, 5))), ((0, 0), (5, 7)), False)
        self.has(("net", ("a", "b"), ((0, 1, 5), (1, 0, -7))), ((0, 0), (5, 7)), False)
        self.has(("net", ("a", "b"), ((1, 0, 5), (0, 1, 7))), ((0, 0), (-5, 7)), False)
        self.has(("net", ("a", "b"), ((0, 1, 1), (0, 1, 5), (0, 1, 6), (1, 0, 0))), ((0, 0), (1, 5)), False)

    def test_some_marks_alone_have_one_height(self):
        net = ("net", ("a", "b", "c"), ((0, 1, 4), (1, 2, 2), (2, 1, 3)))
        self.has(net, ((0, 0), (4, 4), (1, 6)), False)
        net = ("net", ("a", "b", "c"), ((0, 1, 4), (0, 1, 6), (1, 2, 2), (0, 2, 7), (0, 2, 7), (0, 2, 7)))
        self.has(net, ((0, 0), (5, 5), (7, 7)), True)

    def test_marks_whose_heights_hang_together(self):
        net = ("net", ("a", "b", "c"), ((0, 1, 4), (0, 1, 9), (1, 2, 10)))
        self.has(net, ((0, 0), (4, 9), (14, 19)), False)

    def test_a_ring_that_does_not_close(self):
        self.has(("net", ("a", "b", "c"), ((0, 1, 7), (1, 2, 3), (2, 0, -9))), ((0, 0), (6, 7), (9, 10)), False)

    def test_values_at_the_bounds(self):
        net = ("net", ("a", "b"), ((0, 1, 1000000), (0, 1, -1000000)))
        self.has(net, ((0, 0), (-1000000, 1000000)), False)

    def test_against_a_search_over_all_heights(self):
        for net in small_nets(30, 120, most_marks=3, most_readings=6) + small_nets(31, 12, most=2) + [RING]:
            told, one = spans_by_search(net, 9)
            self.assertEqual(spans(net), told, net)
            self.assertIs(is_one(net), one, net)

    def test_greater_nets_by_their_flows(self):
        draw = random.Random(32)
        nets = [drawn_net(draw, draw.randint(5, 16), draw.randint(8, 40), most) for most in (3, 9, 1000) * 12]
        for net in nets + edge_nets(33):
            told = spans_by_flow(net, best_paper(net)[2])
            self.assertEqual(spans(net), told)
            self.assertIs(is_one(net), all(least == greatest for least, greatest in told))

    def test_best_heights_are_in_the_spans(self):
        for net in small_nets(34, 60, most_marks=8, most_readings=14, most=9):
            for height, (least, greatest) in zip(best_paper(net)[1], spans(net)):
                self.assertLessEqual(least, height)
                self.assertLessEqual(height, greatest)


if __name__ == "__main__":
    unittest.main()
