"""truelevels.tree: g6."""

import random
import unittest

from helpers import (LONE, NAMES, PAIR, RING, TRIANGLE, drawn_net, edge_nets, is_plain, least_by_sides, pairs_of,
                     small_nets)
from truelevels.cuts import least_cut
from truelevels.tree import cut_tree, least_size


def least_on_way(tree, one, other):
    """The least size between two marks of a tree, by the marks above each of them."""
    def sizes_up(mark):
        rows = {mark: []}
        while mark:
            parent, size = tree[mark - 1]
            rows[parent] = rows[mark] + [size]
            mark = parent
        return rows

    left, right = sizes_up(one), sizes_up(other)
    meeting = max(set(left) & set(right))
    return min(left[meeting] + right[meeting])


class Trees(unittest.TestCase):
    def right(self, net, least=least_by_sides):
        """Check a tree of cuts by the least sizes of all pairs."""
        tree = cut_tree(net)
        self.assertEqual((type(tree), len(tree)), (tuple, len(net[1]) - 1))
        for mark, row in enumerate(tree, start=1):
            self.assertEqual((type(row), len(row)), (tuple, 2))
            self.assertTrue(all(map(is_plain, row)), row)
            self.assertTrue(0 <= row[0] < mark, (net, tree))
            self.assertEqual(row[1], least(net, row[0], mark), (net, tree))
        for one, other in pairs_of(net):
            size = least(net, one, other)
            self.assertEqual(least_on_way(tree, one, other), size, (net, tree, one, other))
            self.assertEqual(least_size(tree, one, other), size, (net, tree, one, other))
            self.assertIs(type(least_size(tree, one, other)), int)
        return tree

    def test_one_mark(self):
        self.assertEqual(cut_tree(LONE), ())

    def test_two_marks(self):
        self.assertEqual(self.right(PAIR), ((0, 3),))
        for many in (1, 2, 79, 80):
            net = ("net", ("a", "b"), tuple((n % 2, 1 - n % 2, n) for n in range(many)))
            self.assertEqual(self.right(net), ((0, many),))

    def test_hand_made_nets(self):
        self.assertEqual(self.right(TRIANGLE), ((0, 3), (0, 2)))
        self.right(RING)
        path = ("net", NAMES[:4], ((0, 1, 1), (2, 1, 1), (1, 2, 1), (3, 2, 1), (2, 3, 1), (2, 3, 5)))
        self.assertEqual(self.right(path), ((0, 1), (1, 2), (2, 3)))

    def test_a_tree_that_hangs_below_a_later_mark(self):
        net = ("net", NAMES[:4], ((3, 1, 0), (1, 3, 0), (3, 1, 0), (3, 2, 0), (2, 3, 0), (0, 3, 0)))
        tree = self.right(net)
        self.assertEqual([least_size(tree, 3, mark) for mark in (0, 1, 2)], [1, 3, 2])
        self.assertEqual([least_size(tree, mark, 3) for mark in (0, 1, 2)], [1, 3, 2])

    def test_small_nets_against_all_sides(self):
        for net in small_nets(60, 150, most_marks=6, most_readings=16) + small_nets(61, 20, most_marks=8,
                                                                                    most_readings=24):
            self.right(net)

    def test_several_readings_between_the_same_marks_in_either_direction(self):
        draw = random.Random(62)
        for net in small_nets(62, 60, most_marks=5, most_readings=6):
            rows = []
            for start, end, value in net[2]:
                for _ in range(draw.randint(1, 4)):
                    rows.append(draw.choice(((start, end, value), (end, start, -value))))
            draw.shuffle(rows)
            self.right((net[0], net[1], tuple(rows)))

    def test_nets_at_the_bounds(self):
        def least(net, one, other):
            return len(least_cut(net, one, other)[1])

        for net in edge_nets(63):
            self.right(net, least)

    def test_trees_that_are_not_the_programs(self):
        for tree in (((0, 5), (0, 2), (1, 4), (1, 1)), ((0, 1), (1, 2), (2, 3), (3, 4)), ((0, 7), (1, 7), (0, 7))):
            for one in range(len(tree) + 1):
                for other in range(len(tree) + 1):
                    if one != other:
                        self.assertEqual(least_size(tree, one, other), least_on_way(tree, one, other))

    def test_a_large_tree_by_each_pair(self):
        draw = random.Random(64)
        net = drawn_net(draw, 12, 40, 9)
        self.right(net, least_by_sides)


if __name__ == "__main__":
    unittest.main()
