"""truelevels.asks: x5."""

import random
import time
import unittest
from unittest import mock

import truelevels.worlds
from helpers import LONE, NAMES, PAIR, TRIANGLE, is_plain, small_nets, strength_by_sides, with_lies
from truelevels.asks import asks, depth_of, followed
from truelevels.errors import BadState
from truelevels.worlds import worlds


def ring_of(many, gap=1):
    """A net with so many marks in a ring that does not close, and so as many worlds with one lie."""
    return ("net", NAMES[:many], tuple((mark, (mark + 1) % many, gap) for mark in range(many)))


def pair_of(values):
    """A net with two marks and these values, and so as many worlds (of unlike values) with one lie less."""
    return ("net", ("a", "b"), tuple((0, 1, value) for value in values))


def answer(net, index, heights):
    """What reading this one once more says if the heights are true."""
    start, end, _ = net[2][index]
    return heights[end] - heights[start]


def parts(net, index, left):
    """The worlds that are left, by the answers that they give."""
    told = {}
    for heights in left:
        told.setdefault(answer(net, index, heights), []).append(heights)
    return told


def least_depth(net, left, most):
    """The least depth of a tree for these worlds, most at the most, by trying out all readings."""
    if len(left) == 1 or most == 0:
        return 0 if len(left) == 1 else 1
    best = most + 1
    for index in range(len(net[2])):
        told = parts(net, index, left)
        if len(told) > 1:
            best = min(best, 1 + max(least_depth(net, part, best - 2) for part in told.values()))
    return best


def ends_of(tree):
    """The worlds at the ends of a tree."""
    if tree[0] == "world":
        return [tree[1]]
    return [end for _, below in tree[2] for end in ends_of(below)]


def longest(tree):
    """The greatest number of asks on a way."""
    return 0 if tree[0] == "world" else 1 + max(longest(below) for _, below in tree[2])


class WithTrees(unittest.TestCase):
    def tells_apart(self, net, tree, left):
        """Check that a tree tells apart the worlds that are left."""
        self.assertIs(type(tree), tuple)
        if tree[0] == "world":
            self.assertEqual((len(tree), [tree[1]]), (2, list(left)))
            return
        self.assertEqual((tree[0], len(tree), type(tree[2])), ("ask", 3, tuple))
        self.assertTrue(is_plain(tree[1]) and 0 <= tree[1] < len(net[2]))
        told = parts(net, tree[1], left)
        self.assertEqual([branch[0] for branch in tree[2]], sorted(told))
        for branch in tree[2]:
            self.assertEqual((type(branch), len(branch)), (tuple, 2))
            self.assertTrue(is_plain(branch[0]))
            self.tells_apart(net, branch[1], told[branch[0]])

    def right(self, net, k, depth=None):
        """Check the tree of a net with worlds."""
        found = worlds(net, k)
        tree = asks(net, k)
        self.tells_apart(net, tree, found)
        self.assertEqual(sorted(ends_of(tree)), list(found))
        self.assertEqual(depth_of(tree), longest(tree))
        self.assertIs(type(depth_of(tree)), int)
        if depth is not None:
            self.assertEqual(depth_of(tree), depth, (net, k))
        for heights in found:
            self.assertEqual(followed(net, tree, heights), heights)
        return tree


class Asks(WithTrees):
    def refused(self, net, k):
        with self.assertRaises(BadState):
            asks(net, k)

    def test_one_mark(self):
        for k in (0, 1, 99):
            self.assertEqual(asks(LONE, k), ("world", (0,)))

    def test_one_world(self):
        self.assertEqual(asks(PAIR, 1), ("world", (0, 7)))
        self.assertEqual(asks(TRIANGLE, 1), ("world", (0, 4, 9)))

    def test_no_world(self):
        self.assertEqual(asks(PAIR, 0), ())
        self.assertEqual(asks(ring_of(5), 0), ())

    def test_two_worlds(self):
        tree = self.right(PAIR, 2, 1)
        self.assertEqual([branch[0] for branch in tree[2]], [-9, -7] if tree[1] == 1 else [7, 9])

    def test_many_answers_of_one_reading(self):
        self.right(pair_of((5, -3, 8, 0, 100)), 4, 1)
        turned = ("net", ("a", "b"), tuple((1, 0, value) for value in (5, -3, 8, 0)))
        self.assertEqual(asks(turned, 3)[2],
                         ((-3, ("world", (0, 3))), (0, ("world", (0, 0))), (5, ("world", (0, -5))),
                          (8, ("world", (0, -8)))))

    def test_rings(self):
        for many in range(3, 13):
            self.right(ring_of(many), 1, many - 1)

    def test_a_good_first_ask(self):
        # A ring of six, and three readings across it that are kept on the one or the other side of it.
        across = ((0, 3, 3), (0, 3, 3), (3, 0, 3))
        net = ("net", NAMES[:6], tuple((mark, (mark + 1) % 6, 1) for mark in range(6)) * 3 + across)
        for k in range(3, 6):
            if worlds(net, k):
                found = list(worlds(net, k))
                self.right(net, k, least_depth(net, found, len(found)))

    def test_refused_as_worlds(self):
        for net in small_nets(120, 60, most_marks=5, most_readings=10):
            size = strength_by_sides(net)
            if size > 0:
                asks(net, 0)
                for k in (size, size + 1, 99):
                    self.refused(net, k)
        self.refused(pair_of(range(201)), 200)

    def test_12_worlds_are_let_and_more_are_refused(self):
        self.assertEqual(depth_of(asks(ring_of(12), 1)), 11)
        self.assertEqual(depth_of(asks(pair_of(range(12)), 11)), 1)
        for many in (13, 14, 16):
            self.refused(ring_of(many), 1)
            self.refused(pair_of(range(many)), many - 1)
        self.refused(pair_of(range(80)), 79)

    def test_no_tree_of_fewer_asks(self):
        seen = set()
        for most in (1, 2, 4):
            for net in small_nets(121, 150, most_marks=5, most_readings=9, most=most):
                for k in range(strength_by_sides(net)):
                    found = worlds(net, k)
                    if found:
                        depth = least_depth(net, list(found), len(found))
                        self.right(net, k, depth)
                        seen.add(depth)
                    else:
                        self.assertEqual(asks(net, k), ())
        self.assertTrue({0, 1, 2} <= seen)

    def test_no_tree_of_fewer_asks_where_lies_are_many(self):
        draw = random.Random(122)
        seen = set()
        for _ in range(60):
            many = draw.randint(3, 7)
            fat = draw.randint(1, 3)
            rows = ring_of(many, 1)[2] * fat + tuple(
                (one, other, draw.choice((other - one, other - one - many)))
                for one, other in [draw.sample(range(many), 2) for _ in range(draw.randint(0, 5))])
            net = ("net", NAMES[:many], rows)
            for k in range(fat, strength_by_sides(net)):
                found = worlds(net, k)
                if 1 < len(found) <= 12:
                    depth = least_depth(net, list(found), len(found))
                    self.right(net, k, depth)
                    seen.add((len(found), depth))
        self.assertGreater(len(seen), 6)

    def test_12_worlds_in_a_short_time(self):
        nets = [(ring_of(12), 1), (pair_of(range(12)), 11)]
        across = tuple((0, mark, mark) for mark in range(4, 11, 2))
        nets.append((("net", NAMES[:12], ring_of(12)[2] * 5 + across), 9))
        for net, k in nets:
            self.assertEqual(len(worlds(net, k)), 12)
            start = time.perf_counter()
            self.right(net, k)
            self.assertLess(time.perf_counter() - start, 3)

    def test_the_bound_on_the_number_of_all_worlds_goes_first(self):
        with mock.patch.object(truelevels.worlds, "MOST_WORLDS", 3):
            self.refused(ring_of(4), 1)
            self.right(ring_of(3), 1)

    def test_lies_by_anything(self):
        draw = random.Random(123)
        for net in small_nets(123, 60, most_marks=5, most_readings=10):
            heights = (0,) + tuple(draw.randint(-10 ** 6, 10 ** 6) for _ in net[1][1:])
            for k in range(strength_by_sides(net)):
                self.right(with_lies(draw, net, heights, k, 10 ** 6), k)


class DepthsAndWays(WithTrees):
    TREE = ("ask", 1, ((-2, ("world", (0, 1, 1))),
                       (3, ("ask", 0, ((0, ("world", (0, 0, 3))),
                                       (4, ("ask", 2, ((-7, ("world", (0, 4, 7))), (1, ("world", (9, 9, 9)))))))))))
    NET = ("net", ("a", "b", "c"), ((0, 1, 5), (1, 2, 6), (2, 0, 7)))

    def test_depths(self):
        self.assertEqual(depth_of(("world", (0,))), 0)
        self.assertEqual(depth_of(("ask", 0, ((1, ("world", (0, 1))),))), 1)
        self.assertEqual(depth_of(self.TREE), 3)
        self.assertEqual(depth_of(self.TREE[2][1][1]), 2)
        self.assertEqual(depth_of(("ask", 0, ((5, self.TREE), (6, ("world", (0, 1, 2))), (7, self.TREE)))), 4)

    def test_a_deep_tree(self):
        tree = ("world", (0, 1))
        for _ in range(200):
            tree = ("ask", 0, ((1, tree), (2, ("world", (0, 2)))))
        self.assertEqual(depth_of(tree), 200)

    def test_a_world_alone(self):
        self.assertEqual(followed(LONE, ("world", (0,)), (0,)), (0,))
        self.assertEqual(followed(PAIR, ("world", (0, 7)), (0, 9)), (0, 7))

    def test_answers_that_lead_to_a_world(self):
        self.assertEqual(followed(self.NET, self.TREE, (0, 50, 48)), (0, 1, 1))
        self.assertEqual(followed(self.NET, self.TREE, (0, 0, 3)), (0, 0, 3))
        self.assertEqual(followed(self.NET, self.TREE, (0, 4, 7)), (0, 4, 7))
        self.assertEqual(followed(self.NET, self.TREE, (5, 9, 12)), (0, 4, 7))

    def test_answers_that_are_not_there(self):
        self.assertEqual(followed(self.NET, self.TREE, (0, 0, 0)), ())
        self.assertEqual(followed(self.NET, self.TREE, (0, 1, 4)), ())
        self.assertEqual(followed(self.NET, self.TREE, (0, -4, -1)), ())

    def test_other_heights_in_trees_of_the_program(self):
        draw = random.Random(124)
        ways = set()
        for net, k in ((PAIR, 2), (ring_of(4), 1), (ring_of(7), 1), (pair_of((1, 5, 9)), 2)):
            tree = asks(net, k)
            found = worlds(net, k)
            for _ in range(300):
                heights = (0,) + tuple(draw.choice(found)[mark] + draw.choice((0, 0, 0, 1, -2))
                                       for mark in range(1, len(net[1])))
                told = followed(net, tree, heights)
                ways.add(bool(told))
                node = tree
                while node and node[0] == "ask":
                    node = dict(node[2]).get(answer(net, node[1], heights))
                self.assertEqual(told, node[1] if node else ())
                self.assertIn(told, found + ((),))
        self.assertEqual(ways, {True, False})


if __name__ == "__main__":
    unittest.main()
