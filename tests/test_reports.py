"""truelevels.reports: r1."""

import random
import unittest

from helpers import (LONE, NAMES, PAIR, RING, TRIANGLE, drawn_net, edge_nets, small_nets, spans_by_search,
                     strength_by_sides, sum_of_misses)
from truelevels.adjust import best_paper
from truelevels.cuts import strength
from truelevels.reports import report
from truelevels.spans import spans


def report_by_hand(net, heights, reach, size):
    """The report of a net with these heights, spans and strength."""
    text = ""
    for name, height, (least, greatest) in zip(net[1], heights, reach):
        text += "%s %d" % (name, height)
        text += "\n" if least == greatest else " %d to %d\n" % (least, greatest)
    for start, end, value in net[2]:
        miss = value - heights[end] + heights[start]
        text += "%s to %s %d" % (net[1][start], net[1][end], value)
        text += " misses %d\n" % miss if miss else "\n"
    text += "cost %d\n" % sum_of_misses(net, heights)
    if len(net[1]) == 1:
        return text + "strength none\nsafe against all\n"
    return text + "strength %d\nsafe against %d\n" % (size, (size - 1) // 2)


class Reports(unittest.TestCase):
    def test_one_mark(self):
        self.assertEqual(report(LONE), "a 0\ncost 0\nstrength none\nsafe against all\n")
        self.assertEqual(report(("net", ("to",), ())), "to 0\ncost 0\nstrength none\nsafe against all\n")

    def test_hand_made_nets(self):
        self.assertEqual(report(PAIR), "a 0\nb 7\na to b 7\nb to a -7\na to b 9 misses 2\ncost 2\nstrength 3\n"
                                       "safe against 1\n")
        self.assertEqual(report(TRIANGLE), "a 0\nb 4\nc 9\na to b 4\nb to a -4\nb to c 5\nc to a -9\ncost 0\nstrength 2\n"
                                           "safe against 0\n")

    def test_misses_below_0(self):
        net = ("net", ("a", "b"), ((0, 1, 7), (0, 1, 7), (0, 1, 3), (1, 0, -9), (1, 0, -7)))
        self.assertEqual(report(net), "a 0\nb 7\na to b 7\na to b 7\na to b 3 misses -4\nb to a -9 misses -2\nb to a -7\n"
                                      "cost 6\nstrength 5\nsafe against 2\n")

    def test_spans_that_are_not_one_height(self):
        net = ("net", ("a", "b"), ((0, 1, -7), (0, 1, -5)))
        height = best_paper(net)[1][1]
        first, second = [" misses %d" % (value - height) if value != height else "" for value in (-7, -5)]
        self.assertEqual(report(net), f"a 0\nb {height} -7 to -5\na to b -7{first}\na to b -5{second}\ncost 2\nstrength 2\n"
                                      "safe against 0\n")

    def test_names_that_are_words_of_reports(self):
        net = ("net", ("misses", "to", "cost"), ((0, 1, 0), (2, 1, -3)))
        self.assertEqual(report(net), "misses 0\nto 0\ncost 3\nmisses to to 0\ncost to to -3\ncost 0\nstrength 1\n"
                                      "safe against 0\n")

    def test_small_nets_line_by_line(self):
        seen = set()
        for net in small_nets(310, 120, most_marks=4, most_readings=8):
            heights = best_paper(net)[1]
            text = report_by_hand(net, heights, spans_by_search(net, 10), strength_by_sides(net))
            self.assertEqual(report(net), text, net)
            for line in text.split("\n"):
                seen.update(word for word in ("misses", "misses -", " to ", "none", "all") if word in line)
        self.assertEqual(seen, {"misses", "misses -", " to ", "none", "all"})

    def test_nets_at_the_bounds(self):
        draw = random.Random(311)
        for net in edge_nets(311) + [drawn_net(draw, 16, 40, 9), RING]:
            text = report_by_hand(net, best_paper(net)[1], spans(net), strength(net))
            self.assertEqual(report(net), text)

    def test_each_line_is_ended_by_a_newline(self):
        for net in (LONE, PAIR, RING, edge_nets(312)[1]):
            self.assertEqual(report(net).count("\n"), len(net[1]) + len(net[2]) + 3)
            self.assertTrue(report(net).endswith("\n"))
            self.assertNotIn("\n\n", report(net))
            self.assertIs(type(report(net)), str)

    def test_safe_against(self):
        for many in (1, 2, 3, 4, 5, 80):
            net = ("net", ("a", "b"), ((0, 1, 5),) * many)
            self.assertTrue(report(net).endswith(f"cost 0\nstrength {many}\nsafe against {(many - 1) // 2}\n"))

    def test_sixteen_marks_in_a_row(self):
        net = ("net", NAMES, tuple((mark, mark + 1, 1000000) for mark in range(15)))
        self.assertEqual(report(net).split("\n")[15], "p 15000000")


if __name__ == "__main__":
    unittest.main()
