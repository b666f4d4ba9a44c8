"""truelevels.adjust: a1 and a4, and a2 and a3 of its flows."""

import random
import unittest

from helpers import (LONE, PAIR, RING, TRIANGLE, all_heights, drawn_net, edge_nets, paper_is_right, small_nets,
                     sum_of_misses, sum_of_worth)
from truelevels.adjust import best_paper


def with_lies(draw, net, heights, lying):
    """The net with values that the heights keep, but for the readings that lie."""
    readings = []
    for index, (start, end, _) in enumerate(net[2]):
        value = heights[end] - heights[start]
        if index in lying:
            value += draw.choice((-1, 1)) * draw.choice((1, 5, 400000))
        readings.append((start, end, value))
    return ("net", net[1], tuple(readings))


class BestPapers(unittest.TestCase):
    def holds(self, net):
        paper = best_paper(net)
        self.assertTrue(paper_is_right(net, paper), (net, paper))
        return paper

    def test_one_mark(self):
        self.assertEqual(best_paper(LONE), ("best", (0,), ()))

    def test_hand_made_nets(self):
        for net, heights, least in ((PAIR, (0, 7), 2), (TRIANGLE, (0, 4, 9), 0)):
            paper = self.holds(net)
            self.assertEqual(paper[1], heights)
            self.assertEqual(sum_of_worth(net, paper[2]), least)

    def test_two_readings_that_do_not_agree(self):
        for first, second in ((7, 5), (5, 7), (-7, 5), (0, 3), (-4, -9)):
            net = ("net", ("a", "b"), ((0, 1, first), (0, 1, second)))
            paper = self.holds(net)
            self.assertEqual(sum_of_misses(net, paper[1]), abs(first - second))
            turned = ("net", ("a", "b"), ((0, 1, first), (1, 0, -second)))
            self.assertEqual(sum_of_misses(turned, self.holds(turned)[1]), abs(first - second))

    def test_a_ring_that_does_not_close(self):
        net = ("net", ("a", "b", "c"), ((0, 1, 7), (1, 2, 3), (2, 0, -9)))
        self.assertEqual(sum_of_misses(net, self.holds(net)[1]), 1)

    def test_nets_without_a_fault(self):
        draw = random.Random(10)
        for _ in range(40):
            net = drawn_net(draw, draw.randint(2, 16), draw.randint(1, 80), 9)
            heights = (0,) + tuple(draw.randint(-300000, 300000) for _ in net[1][1:])
            net = with_lies(draw, net, heights, ())
            self.assertEqual(self.holds(net)[1], heights)

    def test_readings_that_lie_by_anything(self):
        draw = random.Random(11)
        for _ in range(40):
            net = drawn_net(draw, draw.randint(2, 10), draw.randint(10, 60), 9)
            heights = (0,) + tuple(draw.randint(-300000, 300000) for _ in net[1][1:])
            lying = draw.sample(range(len(net[2])), draw.randint(1, len(net[2])))
            self.holds(with_lies(draw, net, heights, lying))

    def test_lies_that_are_outvoted(self):
        draw = random.Random(12)
        for _ in range(20):
            net = drawn_net(draw, 5, 6, 9)
            net = ("net", net[1], net[2] * 5)
            heights = (0,) + tuple(draw.randint(-99, 99) for _ in net[1][1:])
            lying = draw.sample(range(len(net[2])), 2)
            self.assertEqual(self.holds(with_lies(draw, net, heights, lying))[1], heights)

    def test_several_readings_between_two_marks_either_way(self):
        draw = random.Random(13)
        for many in (2, 3, 9, 80):
            readings = tuple(draw.choice(((0, 1), (1, 0))) + (draw.randint(-50, 50),) for _ in range(many))
            net = ("net", ("a", "b"), readings)
            told = sorted(value if start == 0 else -value for start, _, value in readings)
            height = self.holds(net)[1][1]
            self.assertLessEqual(told[(many - 1) // 2], height)
            self.assertLessEqual(height, told[many // 2])

    def test_nets_at_the_bounds(self):
        for net in edge_nets(14):
            self.holds(net)

    def test_nets_that_are_trees(self):
        draw = random.Random(15)
        for _ in range(20):
            net = drawn_net(draw, draw.randint(2, 16), 0, 1000000)
            self.assertEqual(sum_of_misses(net, self.holds(net)[1]), 0)

    def test_no_heights_cost_less(self):
        for net in small_nets(16, 60, most_marks=3) + [RING]:
            paper = self.holds(net)
            least = min(sum_of_misses(net, heights) for heights in all_heights(net, 8))
            self.assertEqual(sum_of_misses(net, paper[1]), least, net)

    def test_drawn_nets(self):
        for net in small_nets(17, 150, most_marks=7, most_readings=20, most=12):
            self.holds(net)


if __name__ == "__main__":
    unittest.main()
