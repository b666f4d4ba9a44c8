"""truelevels.judge: a2 to a4, and d5."""

import random
import unittest

from helpers import (LONE, PAIR, RING, TRIANGLE, drawn_thing, edge_nets, evens_out, in_lists, paper_is_right, part_at,
                     places, small_nets, sum_of_misses, sum_of_worth, with_part)
from truelevels.adjust import best_paper
from truelevels.cuts import strength_paper
from truelevels.judge import is_even, judge, worth

PAIR_BEST = ("best", (0, 7), (0, 1, 1))
TRIANGLE_BEST = ("best", (0, 4, 9), (0, 0, 0, 0))
PAIR_STRENGTH = ("strength", 3, (1,), (((0,), (1,), (2,)),))
TRIANGLE_STRENGTH = ("strength", 2, (2,), (((0,), (1,)), ((0, 2), (3,))))
RING_STRENGTH = ("strength", 2, (1,), (((0,), (4, 1)), ((4,), (0, 1)), ((3,), (4, 2))))
# Between a and b one reading; c is read twice from b.
TAIL = ("net", ("a", "b", "c"), ((0, 1, 5), (1, 2, 2), (1, 2, 2)))
TAIL_BEST = ("best", (0, 5, 7), (0, 0, 0))
TAIL_STRENGTH = ("strength", 1, (1, 2), (((0,),), ((0, 2),)))

HOLDING = ((LONE, ("best", (0,), ())), (LONE, ("strength", -1, (), ())), (PAIR, PAIR_BEST), (TRIANGLE, TRIANGLE_BEST),
           (PAIR, PAIR_STRENGTH), (TRIANGLE, TRIANGLE_STRENGTH), (RING, RING_STRENGTH), (TAIL, TAIL_BEST),
           (TAIL, TAIL_STRENGTH))


class Judging(unittest.TestCase):
    def holds(self, net, paper):
        self.assertIs(judge(net, paper), True, (net, paper))

    def fails(self, net, paper):
        self.assertIs(judge(net, paper), False, (net, paper))


class PapersThatHold(Judging):
    def test_hand_made_papers(self):
        for net, paper in HOLDING:
            self.holds(net, paper)

    def test_papers_of_the_program(self):
        for net in small_nets(20, 60, most_marks=6, most_readings=12) + edge_nets(20):
            self.holds(net, best_paper(net))
            self.holds(net, strength_paper(net))

    def test_flows_against_the_direction_of_readings(self):
        net = ("net", ("a", "b"), ((0, 1, 5), (0, 1, 4), (1, 0, -4)))
        self.holds(net, ("best", (0, 4), (1, -1, 0)))
        self.holds(net, ("best", (0, 4), (1, 0, 1)))
        self.fails(net, ("best", (0, 4), (1, 1, 0)))

    def test_each_of_several_best_heights(self):
        net = ("net", ("a", "b"), ((0, 1, 7), (0, 1, 5)))
        for height in (5, 6, 7):
            self.holds(net, ("best", (0, height), (1, -1)))
        for height in (4, 8, -6):
            self.fails(net, ("best", (0, height), (1, -1)))

    def test_ways_that_come_to_marks_more_than_once(self):
        net = ("net", ("a", "b", "c"), ((0, 1, 5), (1, 2, 2), (2, 1, 2), (1, 2, 3)))
        for first in ((0,), (0, 1, 2), (0, 2, 1), (0, 3, 1)):
            for second in ((0, 1), (0, 3), (0, 1, 2, 3), (0, 3, 2, 1)):
                self.holds(net, ("strength", 1, (1, 2), ((first,), (second,))))
        again = ("net", ("a", "b"), ((0, 1, 5), (1, 0, 2), (0, 1, 2)))
        self.fails(again, ("strength", 1, (1,), (((0, 1, 2),),)))
        round_trip = ("net", ("a", "b", "c"), ((0, 1, 5), (0, 1, 5), (0, 1, 5), (1, 2, 4)))
        self.holds(round_trip, ("strength", 1, (2,), (((0, 1, 2),), ((2, 0, 1, 3),))))

    def test_huge_heights(self):
        net = ("net", ("a", "b"), ((0, 1, 7),))
        self.fails(net, ("best", (0, 10 ** 400), (0,)))
        self.fails(net, ("best", (0, 10 ** 400), (1,)))


class PapersOfHeightsThatDoNotHold(Judging):
    def test_one_height_changed(self):
        for by in (-1, 1, 10, -10 ** 9):
            self.fails(PAIR, ("best", (0, 7 + by), (0, 1, 1)))
            self.fails(TRIANGLE, ("best", (0, 4 + by, 9), (0, 0, 0, 0)))
            self.fails(TRIANGLE, ("best", (0, 4, 9 + by), (0, 0, 0, 0)))

    def test_one_flow_changed(self):
        for index in range(3):
            for amount in (-1, 0, 1):
                if amount != PAIR_BEST[2][index]:
                    self.fails(PAIR, with_part(PAIR_BEST, (2, index), amount))

    def test_a_flow_that_is_even_but_worth_less(self):
        self.fails(PAIR, ("best", (0, 7), (0, 0, 0)))
        self.fails(PAIR, ("best", (0, 7), (1, 1, 0)))
        self.fails(PAIR, ("best", (0, 7), (-1, -1, 0)))

    def test_a_flow_that_is_worth_as_much_but_not_even(self):
        net = ("net", ("a", "b"), ((0, 1, 3), (0, 1, 1)))
        self.holds(net, ("best", (0, 3), (1, -1)))
        self.fails(net, ("best", (0, 0), (1, 1)))
        self.fails(net, ("best", (0, 4), (1, 1)))
        chain = ("net", ("a", "b", "c"), ((0, 1, 5), (1, 2, 5)))
        self.holds(chain, ("best", (0, 5, 10), (0, 0)))
        self.fails(chain, ("best", (0, 5, 15), (0, 1)))
        self.fails(chain, ("best", (0, 10, 15), (1, 0)))
        self.fails(chain, ("best", (0, 0, 15), (1, 1)))
        self.fails(chain, ("best", (0, 0, 0), (1, 1)))

    def test_a_row_longer_or_shorter(self):
        self.fails(PAIR, ("best", (0, 7, 0), (0, 1, 1)))
        self.fails(PAIR, ("best", (0,), (0, 1, 1)))
        self.fails(PAIR, ("best", (), (0, 1, 1)))
        self.fails(PAIR, ("best", (0, 7), (0, 1)))
        self.fails(PAIR, ("best", (0, 7), (0, 1, 1, 0)))
        self.fails(PAIR, ("best", (0, 7), ()))
        self.fails(TRIANGLE, ("best", (0, 4), (0, 0, 0, 0)))
        self.fails(TRIANGLE, ("best", (0, 4, 9, 0), (0, 0, 0, 0)))
        self.fails(TRIANGLE, ("best", (0, 4, 9), (0, 0, 0)))
        self.fails(TRIANGLE, ("best", (0, 4, 9), (0, 0, 0, 0, 0)))
        self.fails(PAIR, ("best", (0, 7)))
        self.fails(PAIR, ("best", (0, 7), (0, 1, 1), ()))
        self.fails(LONE, ("best", (0, 0), ()))
        self.fails(LONE, ("best", (0,), (0,)))

    def test_a_first_height_that_is_not_0(self):
        for by in (1, -1, 50):
            self.fails(PAIR, ("best", (by, 7 + by), (0, 1, 1)))
            self.fails(TRIANGLE, ("best", (by, 4 + by, 9 + by), (0, 0, 0, 0)))
            self.fails(LONE, ("best", (by,), ()))

    def test_a_flow_beyond_1(self):
        net = ("net", ("a", "b"), ((0, 1, 5), (0, 1, 4)))
        self.holds(net, ("best", (0, 5), (1, -1)))
        self.fails(net, ("best", (0, 6), (3, -3)))
        self.fails(net, ("best", (0, 2), (5, -5)))
        turned = ("net", ("a", "b"), ((0, 1, 4), (0, 1, 5)))
        self.fails(turned, ("best", (0, 6), (-3, 3)))
        ring = ("net", ("a", "b", "c"), ((0, 1, 1), (1, 2, 1), (2, 0, 0)))
        self.holds(ring, ("best", (0, 1, 2), (1, 1, 1)))
        self.fails(ring, ("best", (0, 1, 3), (2, 2, 2)))

    def test_another_word(self):
        for word in ("Best", "bes", "best ", "weighted", "strength", "", "net", 0, None, True, ("best",), ["best"]):
            self.fails(PAIR, (word, (0, 7), (0, 1, 1)))

    def test_another_nets_paper(self):
        self.fails(TRIANGLE, PAIR_BEST)
        self.fails(PAIR, TRIANGLE_BEST)
        self.fails(LONE, PAIR_BEST)
        self.fails(PAIR, ("best", (0,), ()))
        other = ("net", ("a", "b"), ((0, 1, 7), (1, 0, -7), (0, 1, 8)))
        self.fails(other, ("best", (0, 9), (-1, 0, 1)))
        self.fails(("net", ("a", "b"), ((0, 1, 7), (1, 0, -8), (0, 1, 9))), PAIR_BEST)

    def test_parts_that_are_exchanged(self):
        self.fails(PAIR, ("best", (0, 1, 1), (0, 7)))
        self.fails(PAIR, ((0, 7), "best", (0, 1, 1)))

    def test_by_sums_made_here(self):
        draw = random.Random(21)
        for net in small_nets(21, 150, most_marks=4, most_readings=8, most=2):
            paper = best_paper(net)
            for _ in range(12):
                heights = tuple(height + draw.choice((0, 0, 0, 1, -1)) for height in paper[1])
                flow = tuple(amount + draw.choice((0, 0, 0, 0, 1, -1)) for amount in paper[2])
                made = ("best", heights, flow)
                self.assertIs(judge(net, made), paper_is_right(net, made), (net, made))


class PapersOfStrengthThatDoNotHold(Judging):
    def test_ways_that_share_a_reading(self):
        self.fails(PAIR, ("strength", 3, (1,), (((0,), (1,), (1,)),)))
        self.fails(TRIANGLE, ("strength", 2, (2,), (((0,), (0,)), ((0, 2), (3,)))))
        self.fails(TRIANGLE, ("strength", 2, (2,), (((0,), (1,)), ((0, 2), (1, 2)))))
        self.fails(RING, ("strength", 2, (1,), (((0,), (4, 1)), ((4,), (0, 1)), ((4, 2), (0, 1, 2)))))

    def test_ways_of_two_marks_may_share_a_reading(self):
        self.holds(TRIANGLE, ("strength", 2, (2,), (((0,), (3, 2)), ((0, 2), (3,)))))

    def test_ways_that_do_not_end_where_they_should(self):
        self.fails(TRIANGLE, ("strength", 2, (2,), (((0,), (3,)), ((0, 2), (3,)))))
        self.fails(TRIANGLE, ("strength", 2, (2,), (((0,), (1,)), ((0,), (3,)))))
        self.fails(TRIANGLE, ("strength", 2, (2,), (((0,), (3, 2, 1)), ((0, 2), (3,)))))
        self.fails(TRIANGLE, ("strength", 2, (2,), (((0, 2), (3,)), ((0,), (1,)))))

    def test_ways_that_do_not_go_on(self):
        self.fails(TRIANGLE, ("strength", 2, (2,), (((0,), (2,)), ((0, 2), (3,)))))
        self.fails(TRIANGLE, ("strength", 2, (2,), (((0,), (1,)), ((2, 0), (3,)))))
        self.fails(TAIL, ("strength", 1, (1, 2), (((0,),), ((2,),))))
        self.fails(RING, ("strength", 2, (1,), (((0,), (1, 4)), ((4,), (0, 1)), ((3,), (4, 2)))))
        self.fails(RING, ("strength", 2, (1,), (((0,), (4, 1)), ((4,), (0, 1)), ((3,), (4, 0, 2)))))

    def test_ways_that_use_a_reading_twice(self):
        self.fails(TAIL, ("strength", 1, (1, 2), (((0, 0, 0),), ((0, 2),))))
        self.fails(TAIL, ("strength", 1, (1, 2), (((0, 1, 1),), ((0, 2),))))
        self.fails(TAIL, ("strength", 1, (1, 2), (((0,),), ((0, 2, 2, 2),))))

    def test_ways_without_a_reading(self):
        self.fails(TAIL, ("strength", 1, (1, 2), (((),), ((0, 2),))))
        self.fails(PAIR, ("strength", 3, (1,), (((0,), (1,), ()),)))

    def test_indices_that_there_are_not(self):
        for index in (3, 7, -1, -2, -3, 10 ** 20):
            for place in range(3):
                self.fails(PAIR, with_part(PAIR_STRENGTH, (3, 0, place, 0), index))
        self.fails(PAIR, ("strength", 3, (1,), (((0,), (1,), (-1,)),)))
        self.fails(TAIL, ("strength", 1, (1, 2), (((-3,),), ((0, 2),))))
        self.fails(TAIL, ("strength", 1, (1, 2), (((0,),), ((0, -1),))))

    def test_a_side_that_is_none(self):
        for side in ((), (0,), (0, 1), (2,), (-1,), (1, 1), (1, 2), (1, -1), (-1, 1), (0, 1, 2), ((1,),),
                     (1, 10 ** 20)):
            self.fails(PAIR, ("strength", 3, side, PAIR_STRENGTH[3]))
        self.fails(PAIR, ("strength", 0, (), ((),)))
        self.fails(PAIR, ("strength", 0, (0, 1), ((),)))
        self.fails(TRIANGLE, ("strength", 0, (), ((), ())))
        self.fails(TRIANGLE, ("strength", 0, (), ()))
        for side in ((2, 2), (0, 1), (3,), (2, 3), (-1,), (0, 2), (1, 0)):
            self.fails(TRIANGLE, ("strength", 2, side, TRIANGLE_STRENGTH[3]))

    def test_a_side_that_does_not_ascend(self):
        self.holds(TAIL, ("strength", 1, (1, 2), TAIL_STRENGTH[3]))
        self.fails(TAIL, ("strength", 1, (2, 1), TAIL_STRENGTH[3]))
        self.fails(TAIL, ("strength", 1, (1, 2, 2), TAIL_STRENGTH[3]))
        self.fails(TAIL, ("strength", 1, (1, 1, 2), TAIL_STRENGTH[3]))

    def test_a_side_whose_cut_has_another_size(self):
        self.fails(TRIANGLE, ("strength", 2, (1,), TRIANGLE_STRENGTH[3]))
        self.fails(TAIL, ("strength", 1, (2,), TAIL_STRENGTH[3]))
        self.fails(TAIL, ("strength", 1, (1,), TAIL_STRENGTH[3]))

    def test_a_smaller_number_than_the_cut_has(self):
        self.fails(PAIR, ("strength", 2, (1,), (((0,), (1,)),)))
        self.fails(PAIR, ("strength", 1, (1,), (((0,),),)))
        self.fails(PAIR, ("strength", 0, (1,), ((),)))
        self.fails(PAIR, ("strength", -1, (1,), ((),)))

    def test_another_number(self):
        for number in (2, 4, 0, -1, -3, 10 ** 30):
            self.fails(PAIR, with_part(PAIR_STRENGTH, (1,), number))

    def test_too_few_or_too_many_ways(self):
        self.fails(PAIR, ("strength", 3, (1,), (((0,), (1,)),)))
        self.fails(PAIR, ("strength", 3, (1,), (((0,), (1,), (2,), ()),)))
        self.fails(TAIL, ("strength", 1, (1, 2), (((0,),), ((0, 2), (1,)))))
        self.fails(TRIANGLE, ("strength", 2, (2,), (((0,), (1,), (3, 2)), ((0, 2), (3,)))))
        self.fails(TRIANGLE, ("strength", 2, (2,), (((0,), (1,)), ((0, 2),))))

    def test_too_few_or_too_many_marks(self):
        self.fails(TRIANGLE, ("strength", 2, (2,), (((0,), (1,)),)))
        self.fails(TRIANGLE, ("strength", 2, (2,), (((0,), (1,)), ((0, 2), (3,)), ((0,), (1,)))))
        self.fails(TRIANGLE, ("strength", 2, (2,), (((), ()), ((0,), (1,)), ((0, 2), (3,)))))
        self.fails(TRIANGLE, ("strength", 2, (2,), ()))

    def test_too_few_or_too_many_parts(self):
        self.fails(PAIR, PAIR_STRENGTH[:3])
        self.fails(PAIR, PAIR_STRENGTH + ((),))
        self.fails(PAIR, ("strength",))

    def test_another_word(self):
        for word in ("Strength", "best", "weighted", "", 3, None, ("strength",)):
            self.fails(PAIR, (word,) + PAIR_STRENGTH[1:])

    def test_another_nets_paper(self):
        self.fails(TRIANGLE, PAIR_STRENGTH)
        self.fails(PAIR, TRIANGLE_STRENGTH)
        self.fails(TRIANGLE, TAIL_STRENGTH)
        self.fails(LONE, PAIR_STRENGTH)

    def test_one_mark(self):
        self.holds(LONE, ("strength", -1, (), ()))
        for paper in (("strength", 0, (), ()), ("strength", 1, (), ()), ("strength", -1, (0,), ()),
                      ("strength", -1, (), ((),)), ("strength", -1, ()), ("strength", -1, (), (), ()),
                      ("strength", True, (), ()), ("strength", -1, [], ()), ("strength", -1, (), []),
                      ["strength", -1, (), ()], ("best", -1, (), ()), ("strength", None, (), ())):
            self.fails(LONE, paper)

    def test_the_paper_of_one_mark_for_other_nets(self):
        for net in (PAIR, TRIANGLE, RING):
            self.fails(net, ("strength", -1, (), ()))
            self.fails(net, ("strength", 0, (), ()))


class AnythingElse(Judging):
    def test_parts_of_the_other_kind(self):
        for net, best, strong in ((PAIR, PAIR_BEST, PAIR_STRENGTH), (TRIANGLE, TRIANGLE_BEST, TRIANGLE_STRENGTH)):
            self.fails(net, ("best",) + strong[1:])
            self.fails(net, ("strength",) + best[1:])
            self.fails(net, ("best",) + strong[2:])
            self.fails(net, ("strength", strong[1]) + best[1:])

    def test_papers_by_weights(self):
        self.fails(PAIR, ("weighted", (0, 7), (0, 1, 1)))

    def test_lists_in_the_place_of_tuples(self):
        for net, paper in HOLDING:
            for made in in_lists(paper):
                self.fails(net, made)

    def test_true_and_false_in_the_place_of_integers(self):
        net = ("net", ("a", "b"), ((0, 1, 1), (0, 1, 0)))
        self.holds(net, ("best", (0, 1), (1, -1)))
        self.fails(net, ("best", (False, 1), (1, -1)))
        self.fails(net, ("best", (0, True), (1, -1)))
        self.fails(net, ("best", (0, 1), (True, -1)))
        self.fails(net, ("best", (0, False), (1, -1)))
        for net, paper in HOLDING:
            for place in places(paper):
                if part_at(paper, place) in (0, 1):
                    self.fails(net, with_part(paper, place, bool(part_at(paper, place))))

    def test_other_things_in_any_place(self):
        things = (None, "", "best", "strength", "0", True, False, [], [0], (), (None,), ((),), 10 ** 20, -10 ** 20)
        for net, paper in HOLDING:
            for place in places(paper):
                for thing in things:
                    if thing != part_at(paper, place):
                        self.fails(net, with_part(paper, place, thing))

    def test_no_paper(self):
        for thing in (None, True, False, 0, 1, "", "best", "strength", (), [], ((),), ("best",), ("strength",),
                      (None,)):
            for net in (LONE, PAIR, TRIANGLE):
                self.fails(net, thing)

    def test_drawn_things(self):
        draw = random.Random(22)
        for _ in range(3000):
            self.fails(TRIANGLE, drawn_thing(draw))
            self.fails(PAIR, ("best", drawn_thing(draw), drawn_thing(draw)))
            self.fails(TRIANGLE, ("strength", 2, drawn_thing(draw), drawn_thing(draw)))
            self.fails(TRIANGLE, ("strength", 2, (2,), drawn_thing(draw, 4)))
            self.fails(TRIANGLE, ("strength", drawn_thing(draw), drawn_thing(draw), (drawn_thing(draw),) * 2))

    def test_deep_things(self):
        deep = ()
        for _ in range(50):
            deep = ([deep],)
        for paper in (deep, ("best", deep, deep), ("strength", deep, deep, deep), ("strength", 3, (1,), (deep,) * 3),
                      (deep, (0, 7), (0, 1, 1)), ("strength", 3, (1,), ((deep, deep, deep),))):
            for net in (LONE, PAIR):
                self.fails(net, paper)


class EvenAndWorth(unittest.TestCase):
    def test_even_flows(self):
        for net, flow in ((PAIR, (1, 1, 0)), (PAIR, (0, 0, 0)), (PAIR, (5, 8, 3)), (PAIR, (-2, 0, 2)),
                          (TRIANGLE, (2, 1, 1, 1)), (TRIANGLE, (1, 1, 0, 0)), (RING, (1, 1, 0, 0, -1)), (LONE, ()),
                          (RING, (10 ** 30, 10 ** 30, 0, 0, -10 ** 30))):
            self.assertIs(is_even(net, flow), True)

    def test_flows_that_are_not_even(self):
        for net, flow in ((PAIR, (1, 0, 0)), (PAIR, (1, -1, 0)), (PAIR, (1, 0, 1)), (PAIR, (0, 0, -7)),
                          (TRIANGLE, (1, 0, 1, 0)), (TRIANGLE, (0, 0, 1, 1)), (TRIANGLE, (1, 1, 1, 1)),
                          (RING, (1, 1, 0, 0, 0)), (RING, (1, 1, 0, 0, 1)), (RING, (0, 0, 0, 10 ** 30, 0))):
            self.assertIs(is_even(net, flow), False)

    def test_worth(self):
        self.assertEqual(worth(PAIR, (1, 1, 0)), 0)
        self.assertEqual(worth(PAIR, (5, -8, 3)), 35 + 56 + 27)
        self.assertEqual(worth(PAIR, (-1, 0, 1)), 2)
        self.assertEqual(worth(RING, (1, 2, 3, 4, 5)), 3 - 4 + 18 + 4 + 40)
        self.assertEqual(worth(RING, (10 ** 30, 0, 0, 0, 0)), 3 * 10 ** 30)
        self.assertEqual(worth(LONE, ()), 0)

    def test_drawn_flows(self):
        draw = random.Random(23)
        for net in small_nets(23, 150, most_marks=5, most_readings=10, most=50) + edge_nets(23):
            for most in (1, 1, 9, 10 ** 12):
                flow = tuple(draw.randint(-most, most) for _ in net[2])
                self.assertIs(is_even(net, flow), evens_out(net, flow))
                self.assertEqual(worth(net, flow), sum_of_worth(net, flow))

    def test_drawn_even_flows(self):
        draw = random.Random(24)
        for net in small_nets(24, 60, most_marks=5, most_readings=10, most=50):
            flow = best_paper(net)[2]
            times = draw.randint(-9, 9)
            self.assertIs(is_even(net, tuple(times * amount for amount in flow)), True)

    def test_no_even_flow_is_worth_more_than_heights_cost(self):
        draw = random.Random(25)
        for net in small_nets(25, 80, most_marks=4, most_readings=7, most=9):
            flows = [tuple(draw.choice((-1, 0, 1)) for _ in net[2]) for _ in range(100)] + [best_paper(net)[2]]
            even = [flow for flow in flows if is_even(net, flow)]
            self.assertNotEqual(even, [])
            for _ in range(20):
                heights = (0,) + tuple(draw.randint(-12, 12) for _ in net[1][1:])
                self.assertLessEqual(max(worth(net, flow) for flow in even), sum_of_misses(net, heights))


if __name__ == "__main__":
    unittest.main()
