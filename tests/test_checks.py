"""truelevels.checks: what is let as heights (n4), as a side (d1) and as indices of readings."""

import random
import unittest

from helpers import LONE, NAMES, PAIR, RING, TRIANGLE, all_sides, drawn_thing, edge_nets, is_good_side, small_nets
from truelevels.errors import BadNet
from truelevels.checks import check_heights, check_indices, check_side

MOST = 100000000
# Things that are no tuples.
NO_TUPLES = (None, True, False, 0, 1, -1, "", "0", "01", "net", [], [0], [0, 7], [1], [[]])
# A ring through 16 marks with 80 readings.
GREAT = edge_nets(200)[0]


class Checking(unittest.TestCase):
    check = None
    reason = ""

    def let(self, net, thing):
        self.assertIsNone(type(self).check(net, thing), (net, thing))

    def refused(self, net, thing):
        with self.assertRaises(BadNet) as caught:
            type(self).check(net, thing)
        self.assertIs(type(caught.exception), BadNet)
        self.assertEqual((caught.exception.line, caught.exception.reason), (0, self.reason), (net, thing))
        self.assertIs(type(caught.exception.line), int)


class Heights(Checking):
    check = check_heights
    reason = "not heights"

    def test_heights_that_are_let(self):
        self.let(LONE, (0,))
        for thing in ((0, 0), (0, 7), (0, -7), (0, 1000001), (0, 16000000)):
            self.let(PAIR, thing)
        self.let(RING, (0, 3, -5, 8))
        self.let(GREAT, (0,) + tuple(range(-7, 8)))

    def test_the_greatest_heights(self):
        for height in (MOST, -MOST, MOST - 1, 1 - MOST):
            self.let(PAIR, (0, height))
            self.let(TRIANGLE, (0, height, -height))
            self.let(GREAT, (0,) + (height,) * 15)

    def test_heights_beyond_the_greatest(self):
        for height in (MOST + 1, -MOST - 1, 10 ** 30, -10 ** 30):
            self.refused(PAIR, (0, height))
            self.refused(TRIANGLE, (0, 1, height))
            self.refused(TRIANGLE, (0, height, 1))
            self.refused(GREAT, (0,) + (0,) * 14 + (height,))

    def test_too_few_and_too_many(self):
        self.refused(LONE, ())
        self.refused(LONE, (0, 0))
        for thing in ((), (0,), (0, 7, 7), (0, 0, 0, 0)):
            self.refused(PAIR, thing)
        self.refused(GREAT, (0,) * 15)
        self.refused(GREAT, (0,) * 17)

    def test_a_first_one_that_is_not_0(self):
        for first in (1, -1, MOST, 7):
            self.refused(LONE, (first,))
            self.refused(PAIR, (first, 7))
            self.refused(PAIR, (first, 0))

    def test_heights_that_are_no_integers(self):
        for part in (True, False, None, "0", "", "7", (), (0,), [], [0]):
            self.refused(LONE, (part,))
            self.refused(PAIR, (0, part))
            self.refused(PAIR, (part, 7))
            self.refused(RING, (0, 3, part, 8))

    def test_things_that_are_no_tuples(self):
        for thing in NO_TUPLES + ([0, 0, 0],):
            for net in (LONE, PAIR, TRIANGLE):
                self.refused(net, thing)

    def test_tuples_within_tuples(self):
        self.refused(LONE, ((0,),))
        self.refused(PAIR, ((0, 7),))
        self.refused(PAIR, ((0, 7), (0, 7)))

    def test_anything(self):
        draw = random.Random(201)
        for _ in range(4000):
            net = draw.choice((LONE, PAIR, TRIANGLE))
            thing = drawn_thing(draw)
            if type(thing) is tuple and [type(part) for part in thing] == [int] * len(net[1]) and thing[0] == 0 and all(
                    -MOST <= part <= MOST for part in thing):
                self.let(net, thing)
            else:
                self.refused(net, thing)


class Sides(Checking):
    check = check_side
    reason = "not a side"

    def test_every_side_is_let(self):
        for net in (LONE, PAIR, TRIANGLE, RING) + tuple(small_nets(202, 20, most_marks=7)):
            for side in all_sides(net):
                self.let(net, side)

    def test_sides_of_many_marks(self):
        self.let(GREAT, tuple(range(1, 16)))
        self.let(GREAT, (15,))
        self.let(GREAT, (1, 15))

    def test_the_empty_one(self):
        for net in (LONE, PAIR, RING, GREAT):
            self.refused(net, ())

    def test_one_with_the_first_mark(self):
        self.refused(LONE, (0,))
        for net in (PAIR, RING):
            self.refused(net, (0,))
            self.refused(net, (0, 1))
        self.refused(RING, (0, 1, 2, 3))
        self.refused(RING, (1, 0))
        self.refused(GREAT, tuple(range(16)))

    def test_indices_that_there_are_not(self):
        self.refused(LONE, (1,))
        for index in (2, 3, -1, -2, 10 ** 30, -10 ** 30):
            self.refused(PAIR, (index,))
            self.refused(PAIR, (1, index))
            self.refused(PAIR, (index, 1))
        self.refused(RING, (3, 4))
        self.refused(RING, (-1, 3))
        self.refused(GREAT, (16,))

    def test_two_alike(self):
        self.refused(PAIR, (1, 1))
        self.refused(RING, (1, 2, 2))
        self.refused(RING, (1, 1, 2))

    def test_indices_that_do_not_ascend(self):
        self.refused(RING, (2, 1))
        self.refused(RING, (1, 3, 2))
        self.refused(RING, (3, 1, 2))
        self.refused(GREAT, tuple(range(15, 0, -1)))

    def test_parts_that_are_no_integers(self):
        for part in (True, False, None, "1", "", (), (1,), [], [1]):
            self.refused(PAIR, (part,))
            self.refused(RING, (1, part))
            self.refused(RING, (part, 2))

    def test_things_that_are_no_tuples(self):
        for thing in NO_TUPLES + ([1, 2],):
            for net in (LONE, PAIR, RING):
                self.refused(net, thing)

    def test_one_mark_has_no_side(self):
        for thing in ((), (0,), (1,), (-1,), (True,), (False,), [], None):
            self.refused(LONE, thing)

    def test_anything(self):
        draw = random.Random(203)
        for _ in range(4000):
            net = draw.choice((LONE, PAIR, TRIANGLE, RING))
            thing = drawn_thing(draw)
            if is_good_side(net, thing):
                self.let(net, thing)
            else:
                self.refused(net, thing)


class Indices(Checking):
    check = check_indices
    reason = "not readings"

    def test_none_and_all(self):
        for net in (LONE, PAIR, TRIANGLE, RING, GREAT):
            self.let(net, ())
            self.let(net, tuple(range(len(net[2]))))

    def test_all_subsets(self):
        for code in range(8):
            self.let(PAIR, tuple(index for index in range(3) if code >> index & 1))
        self.let(RING, (0,))
        self.let(RING, (0, 4))
        self.let(GREAT, (0, 7, 79))

    def test_indices_that_there_are_not(self):
        for index in (3, 4, -1, -3, 10 ** 30, -10 ** 30):
            self.refused(PAIR, (index,))
            self.refused(PAIR, (0, index))
            self.refused(PAIR, (index, 2))
        self.refused(GREAT, (80,))
        self.refused(GREAT, tuple(range(81)))

    def test_two_alike(self):
        for thing in ((0, 0), (2, 2), (0, 1, 1), (0, 0, 1)):
            self.refused(PAIR, thing)

    def test_indices_that_do_not_ascend(self):
        for thing in ((1, 0), (2, 1), (0, 2, 1), (2, 0, 1)):
            self.refused(PAIR, thing)
        self.refused(GREAT, tuple(range(79, -1, -1)))

    def test_parts_that_are_no_integers(self):
        for part in (True, False, None, "1", "", (), (1,), [], [1]):
            self.refused(PAIR, (part,))
            self.refused(PAIR, (0, part))
            self.refused(PAIR, (part, 2))

    def test_things_that_are_no_tuples(self):
        for thing in NO_TUPLES + ([0, 1],):
            for net in (LONE, PAIR, RING):
                self.refused(net, thing)

    def test_one_mark_has_the_empty_tuple_alone(self):
        for thing in ((0,), (-1,), (1,), (False,), ((),)):
            self.refused(LONE, thing)

    def test_anything(self):
        draw = random.Random(204)
        for _ in range(4000):
            net = draw.choice((LONE, PAIR, TRIANGLE, RING))
            thing = drawn_thing(draw)
            plain = type(thing) is tuple and all(type(part) is int and 0 <= part < len(net[2]) for part in thing)
            if plain and list(thing) == sorted(set(thing)):
                self.let(net, thing)
            else:
                self.refused(net, thing)


class Names(unittest.TestCase):
    def test_names_do_not_matter(self):
        net = ("net", NAMES[:2][::-1], PAIR[2])
        self.assertIsNone(check_heights(net, (0, 1)))
        self.assertIsNone(check_side(net, (1,)))
        self.assertIsNone(check_indices(net, (0, 2)))


if __name__ == "__main__":
    unittest.main()
