"""truelevels.more: w1 to w3."""

import itertools
import random
import unittest

from helpers import (LONE, NAMES, PAIR, RING, TRIANGLE, all_sides, cut_by_hand, drawn_net, edge_nets, is_made_of_tuples,
                     is_plain, lacks_by_hand, least_of_all_cuts, plan_is_right, small_nets, strength_by_sides)
from truelevels.more import lack, plan_of
from truelevels.planjudge import judge_plan

ROW = ("net", NAMES, tuple((mark, mark + 1, 5) for mark in range(15)))
STAR = ("net", NAMES, tuple((mark, 0, 5) for mark in range(1, 16)))
LATE_STAR = ("net", NAMES, tuple((mark, 15, 5) for mark in range(15)))
SINGLE = ("net", ("a", "b"), ((1, 0, 5),))
TRI = ("net", NAMES[:3], ((0, 1, 7), (1, 2, 3), (2, 0, -9)))


def all_parts(many):
    """All sets of so many marks that can be in a parting."""
    for size in range(1, many):
        yield from itertools.combinations(range(many), size)


def greatest_sum(net, t):
    """The greatest sum of a parting of a small net."""
    many = len(net[1])

    def greatest_from(marks):
        """The greatest sum of sets within these marks: the first one is in none of them, or in one."""
        if not marks:
            return 0
        best = greatest_from(marks[1:])
        for size in range(len(marks)):
            for more in itertools.combinations(marks[1:], size):
                part = (marks[0],) + more
                if len(part) < many:
                    rest = tuple(mark for mark in marks if mark not in part)
                    best = max(best, lacks_by_hand(net, t, part) + greatest_from(rest))
        return best

    return greatest_from(tuple(range(many)))


def does(net, t, pairs):
    """True if the net with these further readings has a strength of at least t."""
    return least_of_all_cuts(len(net[1]), net[2] + tuple(pairs)) >= t


class Helpers(unittest.TestCase):
    def test_least_of_all_cuts(self):
        for net in small_nets(260, 80, most_marks=6, most_readings=12):
            if len(net[1]) > 1:
                self.assertEqual(least_of_all_cuts(len(net[1]), net[2]), strength_by_sides(net))


class Lack(unittest.TestCase):
    def test_hand_made_nets(self):
        self.assertEqual([lack(PAIR, t, (1,)) for t in range(2, 7)], [0, 0, 1, 2, 3])
        self.assertEqual([lack(PAIR, t, (0,)) for t in range(2, 7)], [0, 0, 1, 2, 3])
        self.assertEqual(lack(TRI, 3, (1,)), 1)
        self.assertEqual([lack(RING, 5, part) for part in ((1,), (0, 2), (0, 1, 2), (0,), (3,))], [3, 1, 3, 2, 3])

    def test_each_set_of_marks(self):
        for net in small_nets(261, 40, most_marks=5, most_readings=14):
            for part in all_parts(len(net[1])):
                for t in range(2, 21):
                    told = lack(net, t, part)
                    self.assertTrue(is_plain(told))
                    self.assertEqual(told, max(0, t - len(cut_by_hand(net, part))), (net, t, part))

    def test_a_set_and_all_other_marks_have_the_same_lack(self):
        for net in small_nets(262, 30, most_marks=5, most_readings=10):
            for part in all_parts(len(net[1])):
                rest = tuple(mark for mark in range(len(net[1])) if mark not in part)
                self.assertEqual(lack(net, 6, part), lack(net, 6, rest))

    def test_sets_with_t_readings_or_more_at_their_edge(self):
        for many in range(1, 25):
            net = ("net", ("a", "b"), ((0, 1, 5),) * many)
            for t in range(2, 21):
                for part in ((0,), (1,)):
                    self.assertEqual(lack(net, t, part), t - many if t > many else 0)

    def test_nets_at_the_bounds(self):
        for net in edge_nets(263):
            last = len(net[1]) - 1
            for part in ((0,), (last,), tuple(range(last)), tuple(range(0, last, 2)), tuple(range(1, last + 1))):
                for t in (2, 3, 19, 20):
                    self.assertEqual(lack(net, t, part), lacks_by_hand(net, t, part))


class Plans(unittest.TestCase):
    def right(self, net, t):
        """Check the plan of a net; it is given back."""
        plan = plan_of(net, t)
        self.assertTrue(plan_is_right(net, t, plan), (net, t, plan))
        self.assertEqual(plan[0], "plan")
        self.assertTrue(is_made_of_tuples(plan[1:]))
        self.assertTrue(all(one < other for one, other in plan[1]))
        self.assertIs(judge_plan(net, t, plan), True)
        return plan

    def test_one_mark(self):
        for t in range(2, 21):
            self.assertEqual(plan_of(LONE, t), ("plan", (), ()))
            self.assertEqual(plan_of(("net", ("zz",), ()), t), ("plan", (), ()))

    def test_two_marks(self):
        for many in range(1, 25):
            net = ("net", ("a", "b"), tuple((n % 2, 1 - n % 2, n) for n in range(many)))
            for t in range(2, 21):
                _, pairs, _ = self.right(net, t)
                self.assertEqual(pairs, ((0, 1),) * max(0, t - many))

    def test_hand_made_nets(self):
        self.assertEqual(len(self.right(TRI, 2)[1]), 0)
        self.assertEqual(len(self.right(TRI, 3)[1]), 2)
        self.assertEqual(len(self.right(TRI, 4)[1]), 3)
        self.assertEqual(len(self.right(RING, 3)[1]), 1)
        self.assertEqual(len(self.right(TRIANGLE, 3)[1]), 1)

    def test_nets_that_are_strong_enough_get_no_pairs(self):
        for net, most in ((PAIR, 3), (TRI, 2), (RING, 2), (("net", ("a", "b"), ((0, 1, 5),) * 80), 20),
                          (edge_nets(264)[0], 10)):
            for t in range(2, 21):
                _, pairs, parting = self.right(net, t)
                self.assertIs(pairs == (), t <= most)
                self.assertIs(sum(lacks_by_hand(net, t, part) for part in parting) == 0, t <= most)

    def test_sums_that_are_even_and_odd(self):
        seen = set()
        for net in small_nets(265, 60, most_marks=6, most_readings=10):
            if len(net[1]) > 1:
                for t in (2, 3, 4, 5, 6):
                    _, pairs, parting = self.right(net, t)
                    total = sum(lacks_by_hand(net, t, part) for part in parting)
                    seen.add((t % 2, 2 * len(pairs) - total))
        self.assertEqual(seen, {(0, 0), (0, 1), (1, 0), (1, 1)})

    def test_small_nets(self):
        for net in small_nets(266, 120, most_marks=7, most_readings=16):
            for t in range(2, 21):
                self.right(net, t)

    def test_the_number_of_pairs_is_half_the_greatest_sum_rounded_up(self):
        for net in small_nets(267, 60, most_marks=6, most_readings=9):
            for t in (2, 3, 4, 7, 20):
                total = greatest_sum(net, t) if len(net[1]) > 1 else 0
                self.assertEqual(len(plan_of(net, t)[1]), (total + 1) // 2, (net, t))

    def test_one_pair_less_does_not_do(self):
        tried = set()
        for net in small_nets(268, 80, most_marks=4, most_readings=7):
            for t in (2, 3, 4, 5):
                many = len(plan_of(net, t)[1])
                if many:
                    pairs = list(itertools.combinations(range(len(net[1])), 2))
                    for fewer in itertools.combinations_with_replacement(pairs, many - 1):
                        self.assertFalse(does(net, t, fewer), (net, t, fewer))
                    tried.add(many)
        self.assertTrue({1, 2, 3, 4} <= tried)

    def test_partings_of_no_two_and_three_sets(self):
        seen = set()
        draw = random.Random(269)
        for _ in range(200):
            inner = draw.randint(1, 3)
            rows = [(0, 1, 0), (1, 2, 0)] * draw.randint(1, 2) + [(0, 2, 0)] * inner
            net = ("net", NAMES[:4], tuple(rows + [(1, 3, 0)] * draw.randint(1, 4) + [(3, 2, 0)] * draw.randint(0, 3)))
            seen.add(len(self.right(net, draw.randint(2, 6))[2]))
        self.assertTrue({0, 2, 3} <= seen)

    def test_marks_in_a_row_and_all_to_one(self):
        for net in (ROW, STAR, LATE_STAR):
            for t in (2, 3, 4, 9, 19, 20):
                self.right(net, t)
        self.assertEqual(len(plan_of(ROW, 2)[1]), 1)
        self.assertEqual(len(plan_of(STAR, 2)[1]), 8)
        self.assertEqual(len(plan_of(LATE_STAR, 2)[1]), 8)
        self.assertEqual(len(plan_of(ROW, 3)[1]), 9)
        self.assertEqual(len(plan_of(STAR, 20)[1]), (15 * 19 + 5) // 2)

    def test_rows_in_another_order(self):
        draw = random.Random(270)
        for _ in range(4):
            order = draw.sample(range(16), 16)
            net = ("net", NAMES, tuple((one, other, 5) for one, other in zip(order, order[1:])))
            for t in (2, 7, 20):
                self.right(net, t)

    def test_nets_at_the_bounds(self):
        draw = random.Random(271)
        for net in edge_nets(271) + [drawn_net(draw, 16, 80, 9), drawn_net(draw, 16, 30, 9)]:
            for t in (2, 10, 11, 20):
                self.right(net, t)

    def test_clusters(self):
        draw = random.Random(272)
        for size in (2, 4, 8):
            rows = [(mark, mark + 1, 0) for mark in range(15)]
            while len(rows) < 80:
                first = draw.randrange(16 // size) * size
                one, other = draw.sample(range(first, first + size), 2)
                rows.append((one, other, 0))
            for t in (2, 3, 8, 15, 20):
                self.right(("net", NAMES, tuple(rows)), t)

    def test_every_t(self):
        draw = random.Random(273)
        for t in range(2, 21):
            self.right(drawn_net(draw, 11, 20, 9), t)
            self.right(drawn_net(draw, 10, 60, 9), t)

    def test_values_do_not_matter(self):
        draw = random.Random(274)
        for net in small_nets(274, 30, most_marks=6, most_readings=10):
            rows = tuple((start, end, draw.randint(-1000000, 1000000)) for start, end, _ in net[2])
            self.assertEqual(plan_of((net[0], net[1], rows), 5), plan_of(net, 5))

    def test_all_sides_of_a_small_net_with_its_pairs(self):
        for net in small_nets(275, 40, most_marks=5, most_readings=7):
            for t in (2, 3, 5):
                _, pairs, _ = plan_of(net, t)
                more = (net[0], net[1], net[2] + tuple(pair + (0,) for pair in pairs))
                for side in all_sides(net):
                    self.assertGreaterEqual(len(cut_by_hand(more, side)), t)


if __name__ == "__main__":
    unittest.main()
