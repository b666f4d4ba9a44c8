"""truelevels.planjudge: w3."""

import itertools
import random
import unittest

from helpers import (LONE, NAMES, PAIR, RING, drawn_net, drawn_thing, edge_nets, in_lists, lacks_by_hand, part_at,
                     places, plan_is_right, small_nets, with_part)
from truelevels.more import plan_of
from truelevels.planjudge import judge_plan

TRI = ("net", NAMES[:3], ((0, 1, 7), (1, 2, 3), (2, 0, -9)))
TRI_PLAN = ("plan", ((0, 1), (1, 2)), ((0,), (1,), (2,)))
# Four marks in a row: for a strength of 2 the two ends lack one reading each.
ROW = ("net", NAMES[:4], ((0, 1, 1), (1, 2, 1), (2, 3, 1)))
ROW_PLAN = ("plan", ((0, 3),), ((0,), (3,)))


class Judging(unittest.TestCase):
    def holds(self, net, t, plan):
        self.assertIs(judge_plan(net, t, plan), True, (net, t, plan))
        self.assertTrue(plan_is_right(net, t, plan))

    def fails(self, net, t, plan):
        self.assertIs(judge_plan(net, t, plan), False, (net, t, plan))
        self.assertFalse(plan_is_right(net, t, plan))


class PlansThatHold(Judging):
    def test_hand_made_plans(self):
        self.holds(TRI, 3, TRI_PLAN)
        self.holds(TRI, 3, ("plan", ((0, 1), (0, 2)), ((0,), (1,), (2,))))
        self.holds(TRI, 3, ("plan", ((0, 2), (1, 2)), ((2,), (0,), (1,))))
        self.holds(ROW, 2, ROW_PLAN)
        self.holds(PAIR, 5, ("plan", ((0, 1), (0, 1)), ((0,), (1,))))

    def test_plans_for_a_net_that_is_strong_enough(self):
        for net, t in ((PAIR, 2), (PAIR, 3), (TRI, 2), (RING, 2)):
            self.holds(net, t, ("plan", (), ()))
            self.holds(net, t, ("plan", (), ((1,),)))
            self.holds(net, t, ("plan", (), ((1,), (0,))))

    def test_one_mark(self):
        for t in range(2, 21):
            self.holds(LONE, t, ("plan", (), ()))

    def test_plans_of_plan_of(self):
        draw = random.Random(280)
        for net in small_nets(280, 80, most_marks=7, most_readings=14) + edge_nets(280):
            for t in (2, 3, 7, 20):
                self.holds(net, t, plan_of(net, t))
        for t in range(2, 21):
            net = drawn_net(draw, 12, 30, 9)
            self.holds(net, t, plan_of(net, t))

    def test_sets_whose_lack_is_0(self):
        net = ("net", NAMES[:4], ((0, 1, 1), (1, 2, 1), (2, 0, 1), (2, 3, 1)))
        self.holds(net, 2, ("plan", ((0, 3),), ((3,),)))
        self.holds(net, 2, ("plan", ((0, 3),), ((3,), (0,))))
        self.holds(net, 2, ("plan", ((1, 3),), ((3,), (0, 1, 2))))
        self.holds(net, 2, ("plan", ((0, 3),), ((1,), (0,), (3,), (2,))))
        # The lack is that of one set, and the sum of two of them is even.
        self.holds(net, 2, ("plan", ((0, 3),), ((0, 1, 2),)))

    def test_sets_with_the_first_mark(self):
        self.holds(ROW, 2, ("plan", ((0, 3),), ((0, 1), (2, 3))))
        self.holds(ROW, 2, ("plan", ((0, 3),), ((0, 1, 2), (3,))))
        self.holds(ROW, 2, ("plan", ((0, 3),), ((0,), (1, 2, 3))))
        self.holds(PAIR, 4, ("plan", ((0, 1),), ((0,),)))
        self.holds(PAIR, 4, ("plan", ((0, 1),), ((1,),)))

    def test_sums_that_are_odd(self):
        self.holds(TRI, 3, ("plan", ((0, 1), (1, 2)), ((0,), (1,), (2,))))
        self.holds(ROW, 2, ("plan", ((0, 3),), ((0,),)))

    def test_all_plans_of_small_nets(self):
        draw = random.Random(281)
        seen = set()
        for net in small_nets(281, 40, most_marks=4, most_readings=5):
            marks = range(len(net[1]))
            every = [part for size in range(1, len(net[1])) for part in itertools.combinations(marks, size)]
            pairs = list(itertools.combinations(marks, 2))
            for t in (2, 3):
                for _ in range(150):
                    rows = tuple(sorted(draw.choice(pairs) for _ in range(draw.randint(0, 3)))) if pairs else ()
                    parting = tuple(draw.sample(every, draw.randint(0, min(len(every), 4))))
                    plan = ("plan", rows, parting)
                    told = judge_plan(net, t, plan)
                    self.assertIs(told, plan_is_right(net, t, plan), (net, t, plan))
                    seen.add((told, len(rows)))
        self.assertTrue({(True, 0), (True, 1), (True, 2), (False, 0), (False, 1), (False, 2), (False, 3)} <= seen)


class PlansThatDoNotHold(Judging):
    def test_a_pair_less_and_a_pair_more(self):
        self.fails(TRI, 3, ("plan", ((0, 1),), TRI_PLAN[2]))
        self.fails(TRI, 3, ("plan", (), TRI_PLAN[2]))
        self.fails(TRI, 3, ("plan", ((0, 1), (1, 2), (1, 2)), TRI_PLAN[2]))
        self.fails(ROW, 2, ("plan", (), ROW_PLAN[2]))
        self.fails(ROW, 2, ("plan", (), ()))
        self.fails(ROW, 2, ("plan", ((0, 3), (0, 3)), ROW_PLAN[2]))
        self.fails(PAIR, 3, ("plan", ((0, 1),), ()))
        self.fails(LONE, 3, ("plan", ((0, 0),), ()))

    def test_pairs_exchanged_for_ones_that_do_not_do(self):
        self.fails(ROW, 2, ("plan", ((0, 2),), ROW_PLAN[2]))
        self.fails(ROW, 2, ("plan", ((1, 3),), ROW_PLAN[2]))
        self.fails(ROW, 2, ("plan", ((1, 2),), ROW_PLAN[2]))
        self.fails(TRI, 3, ("plan", ((0, 1), (0, 1)), TRI_PLAN[2]))

    def test_pairs_turned_of_one_mark_or_beyond_the_marks(self):
        for pair in ((3, 0), (0, 0), (3, 3), (0, 4), (-1, 3), (-1, 0), (0, 10 ** 30)):
            self.fails(ROW, 2, ("plan", (pair,), ROW_PLAN[2]))
        for pair in ((0,), (), (0, 3, 3), (0, 1, 3), (0, 3, 0), ((0, 3),), (0, (3,))):
            self.fails(ROW, 2, ("plan", (pair,), ROW_PLAN[2]))

    def test_pairs_in_another_order(self):
        self.fails(TRI, 3, ("plan", ((1, 2), (0, 1)), TRI_PLAN[2]))
        self.fails(TRI, 3, ("plan", ((0, 2), (0, 1)), TRI_PLAN[2]))

    def test_sets_that_make_no_parting(self):
        for parting in (((0,), (3,), (3,)), ((0, 3), (3,)), ((0,), (0, 3)), ((0,), (0,)), ((3,), (2, 3)),
                        ((0, 1), (1, 3))):
            self.fails(ROW, 2, ("plan", ((0, 3),), parting))
        for part in ((), (0, 1, 2, 3), (3, 0), (3, 3), (4,), (-1,), (0, 4), (1, 0), (10 ** 30,)):
            self.fails(ROW, 2, ("plan", ((0, 3),), (part,)))
            self.fails(ROW, 2, ("plan", ((0, 3),), ((0,), part)))
            self.fails(PAIR, 3, ("plan", (), (part, part)))

    def test_sums_that_do_not_prove_it(self):
        self.fails(ROW, 2, ("plan", ((0, 3),), ()))
        self.fails(ROW, 2, ("plan", ((0, 3),), ((1,), (2,))))
        self.fails(TRI, 3, ("plan", ((0, 1), (1, 2)), ((0,), (1,))))
        self.fails(TRI, 3, ("plan", ((0, 1), (1, 2)), ((0,), (1, 2))))
        self.fails(TRI, 3, ("plan", ((0, 1), (1, 2)), ()))
        # Three more readings do as well, but are not the fewest.
        self.fails(TRI, 3, ("plan", ((0, 1), (0, 2), (1, 2)), TRI_PLAN[2]))

    def test_another_t(self):
        self.fails(TRI, 2, TRI_PLAN)
        self.fails(TRI, 4, TRI_PLAN)
        self.fails(ROW, 3, ROW_PLAN)

    def test_another_word_and_another_length(self):
        for word in ("Plan", "plans", "", "best", "strength", None, 0, True, (), ["plan"], ("plan",)):
            self.fails(TRI, 3, (word,) + TRI_PLAN[1:])
        for plan in ((), ("plan",), TRI_PLAN[:2], TRI_PLAN + ((),), TRI_PLAN + TRI_PLAN[1:], TRI_PLAN[1:], (TRI_PLAN,)):
            self.fails(TRI, 3, plan)

    def test_lists_booleans_texts_and_none_at_every_place(self):
        for net, t, plan in ((TRI, 3, TRI_PLAN), (ROW, 2, ROW_PLAN), (ROW, 2, ("plan", ((0, 3),), ((0, 1), (2, 3)))),
                             (LONE, 2, ("plan", (), ()))):
            self.holds(net, t, plan)
            for changed in in_lists(plan):
                self.fails(net, t, changed)
            for place in places(plan):
                for part in (None, True, False, "", "0", "plan", []):
                    if part_at(plan, place) != part or type(part) is bool:
                        self.fails(net, t, with_part(plan, place, part))

    def test_booleans_that_are_like_the_numbers(self):
        self.fails(TRI, 3, ("plan", ((False, 1), (1, 2)), TRI_PLAN[2]))
        self.fails(TRI, 3, ("plan", ((0, True), (1, 2)), TRI_PLAN[2]))
        self.fails(TRI, 3, ("plan", TRI_PLAN[1], ((False,), (1,), (2,))))
        self.fails(TRI, 3, ("plan", TRI_PLAN[1], ((0,), (True,), (2,))))

    def test_plans_of_one_mark(self):
        for plan in (("plan", ((0, 0),), ()), ("plan", ((0, 1),), ()), ("plan", (), ((0,),)), ("plan", (), ((),)),
                     ("plan", ((0, 1),), ((0,),)), ("plan", (), ((1,),)), ("plan", (), None), ("plan", [], ()),
                     ("plan", (), []), ("plan",), (), None, True, "plan", ["plan", (), ()]):
            for t in (2, 3, 20):
                self.fails(LONE, t, plan)

    def test_parts_taken_away_and_put_in(self):
        draw = random.Random(282)
        seen = set()
        for net in small_nets(282, 60, most_marks=5, most_readings=9) + [drawn_net(draw, 9, 20, 9)]:
            for t in (2, 4):
                plan = plan_of(net, t)
                for place in places(plan):
                    part = part_at(plan, place)
                    changes = []
                    if type(part) is int:
                        changes = [part + 1, part - 1, -part, (part,), str(part)]
                    elif type(part) is tuple:
                        changes = [part + part[-1:], part[:-1], part[1:], part[::-1], part + (0,), part + ((0,),)]
                    for change in changes:
                        told = with_part(plan, place, change)
                        self.assertIs(judge_plan(net, t, told), plan_is_right(net, t, told), (net, t, told))
                        seen.add((judge_plan(net, t, told), told == plan))
        self.assertEqual(seen, {(True, True), (True, False), (False, False)})

    def test_many_pairs(self):
        for many in (1000, 100000):
            self.assertIs(judge_plan(TRI, 3, ("plan", ((0, 1),) * many, TRI_PLAN[2])), False)

    def test_anything(self):
        draw = random.Random(283)
        for _ in range(3000):
            thing = drawn_thing(draw, 4)
            self.assertIs(judge_plan(TRI, 3, thing), False)
            plan = with_part(TRI_PLAN, draw.choice(list(places(TRI_PLAN))), thing)
            self.assertIs(judge_plan(TRI, 3, plan), plan_is_right(TRI, 3, plan))


class NoFewerDo(unittest.TestCase):
    def test_where_a_plan_holds_its_sum_is_the_least_that_there_is(self):
        for net in small_nets(284, 60, most_marks=6, most_readings=9):
            for t in (2, 3, 6):
                _, pairs, parting = plan_of(net, t)
                total = sum(lacks_by_hand(net, t, part) for part in parting)
                self.assertEqual((total + 1) // 2, len(pairs))


if __name__ == "__main__":
    unittest.main()
