"""truelevels.misses: n4."""

import random
import unittest

from helpers import LONE, PAIR, RING, TRIANGLE, edge_nets, small_nets
from truelevels.misses import cost, lies, miss_of, misses


class Misses(unittest.TestCase):
    def test_the_value_less_the_height_of_to_plus_that_of_from(self):
        self.assertEqual(miss_of((0, 1, 7), (0, 5)), 2)
        self.assertEqual(miss_of((0, 1, 5), (0, 7)), -2)
        self.assertEqual(miss_of((1, 0, 7), (0, 5)), 12)
        self.assertEqual(miss_of((1, 0, -7), (0, 5)), -2)
        self.assertEqual(miss_of((1, 2, 0), (0, 3, 10)), -7)
        self.assertEqual(miss_of((2, 1, 0), (0, 3, 10)), 7)
        self.assertEqual(miss_of((0, 1, 7), (0, 7)), 0)

    def test_heights_below_0(self):
        self.assertEqual(miss_of((1, 2, -4), (0, -3, -10)), 3)
        self.assertEqual(miss_of((2, 1, -4), (0, -3, -10)), -11)

    def test_misses_in_the_order_of_the_readings(self):
        self.assertEqual(misses(PAIR, (0, 7)), (0, 0, 2))
        self.assertEqual(misses(PAIR, (0, 9)), (-2, 2, 0))
        self.assertEqual(misses(TRIANGLE, (0, 4, 9)), (0, 0, 0, 0))
        self.assertEqual(misses(TRIANGLE, (0, 3, 10)), (1, -1, -2, 1))
        self.assertEqual(misses(RING, (0, 0, 0, 0)), (3, -2, 6, 1, 8))

    def test_drawn_nets(self):
        draw = random.Random(6)
        for net in small_nets(6, 50) + edge_nets(6):
            heights = (0,) + tuple(draw.randint(-99, 99) for _ in net[1][1:])
            told = [value + heights[start] - heights[end] for start, end, value in net[2]]
            self.assertEqual(misses(net, heights), tuple(told))
            self.assertEqual([miss_of(reading, heights) for reading in net[2]], told)
            self.assertEqual(cost(net, heights), sum(max(miss, -miss) for miss in told))
            self.assertEqual(lies(net, heights), tuple(k for k in range(len(told)) if told[k]))

    def test_great_sums(self):
        net = ("net", ("a", "b"), ((0, 1, 1000000), (1, 0, 1000000)) * 40)
        self.assertEqual(cost(net, (0, 0)), 80000000)
        self.assertEqual(cost(net, (0, 3000000)), 40 * 2000000 + 40 * 4000000)


class CostAndLies(unittest.TestCase):
    def test_the_cost_is_of_the_sizes(self):
        self.assertEqual(cost(PAIR, (0, 7)), 2)
        self.assertEqual(cost(PAIR, (0, 9)), 4)
        self.assertEqual(cost(TRIANGLE, (0, 4, 9)), 0)
        self.assertEqual(cost(TRIANGLE, (0, 3, 10)), 5)

    def test_lies_either_way(self):
        self.assertEqual(lies(PAIR, (0, 7)), (2,))
        self.assertEqual(lies(PAIR, (0, 9)), (0, 1))
        self.assertEqual(lies(PAIR, (0, 8)), (0, 1, 2))
        self.assertEqual(lies(TRIANGLE, (0, 4, 9)), ())

    def test_nets_without_readings(self):
        self.assertEqual((misses(LONE, (0,)), cost(LONE, (0,)), lies(LONE, (0,))), ((), 0, ()))


if __name__ == "__main__":
    unittest.main()
