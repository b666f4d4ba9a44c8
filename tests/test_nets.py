"""truelevels.nets: n1 to n3."""

import random
import unittest

from helpers import (LONE, NAMES, PAIR, RING, TRIANGLE, drawn_net, drawn_thing, edge_nets, in_lists, places, small_nets,
                     with_part)
from truelevels.errors import BadNet
from truelevels.nets import check_net, is_joined, reached


class Refusing(unittest.TestCase):
    def refused(self, thing, reason="not a net"):
        with self.assertRaises(BadNet) as caught:
            check_net(thing)
        self.assertEqual(caught.exception.reason, reason)
        self.assertEqual(caught.exception.line, 0)
        self.assertIs(type(caught.exception.line), int)


class NetsThatAreLet(unittest.TestCase):
    def test_ordinary_nets(self):
        for net in (LONE, PAIR, TRIANGLE, RING):
            self.assertIsNone(check_net(net))

    def test_drawn_nets(self):
        for net in small_nets(1, 60):
            self.assertIsNone(check_net(net))

    def test_nets_at_the_bounds(self):
        for net in edge_nets(2):
            self.assertIsNone(check_net(net))

    def test_one_mark_and_no_reading(self):
        self.assertIsNone(check_net(("net", ("a",), ())))

    def test_sixteen_marks(self):
        ring = tuple((mark, mark + 1, mark) for mark in range(15))
        self.assertIsNone(check_net(("net", NAMES, ring)))

    def test_names_of_one_and_of_eight_letters(self):
        self.assertIsNone(check_net(("net", ("z", "abcdefgh", "az"), ((0, 1, 0), (2, 1, 0)))))

    def test_each_letter(self):
        for letter in "abcdefghijklmnopqrstuvwxyz":
            self.assertIsNone(check_net(("net", (letter,), ())))
            self.assertIsNone(check_net(("net", ("a" + letter + "m",), ())))

    def test_names_that_are_words_of_texts(self):
        self.assertIsNone(check_net(("net", ("to", "is", "marks", "net"), ((0, 1, 1), (1, 2, 2), (2, 3, 3)))))

    def test_eighty_readings(self):
        self.assertIsNone(check_net(("net", ("a", "b"), ((0, 1, 5),) * 80)))

    def test_values_at_both_bounds(self):
        for value in (1000000, -1000000, 999999, -999999, 0):
            self.assertIsNone(check_net(("net", ("a", "b"), ((0, 1, value),))))

    def test_several_readings_between_two_marks_either_way(self):
        self.assertIsNone(check_net(("net", ("a", "b"), ((0, 1, 7), (1, 0, -7), (0, 1, 7), (1, 0, 3)))))

    def test_greatest_indices(self):
        self.assertIsNone(check_net(("net", ("a", "b", "c"), ((2, 0, 1), (1, 2, 1)))))


class NoNets(Refusing):
    def test_no_mark(self):
        self.refused(("net", (), ()))

    def test_seventeen_marks(self):
        ring = tuple((mark, mark + 1, mark) for mark in range(16))
        self.refused(("net", NAMES + ("q",), ring))

    def test_a_name_twice(self):
        self.refused(("net", ("a", "a"), ((0, 1, 7),)))
        self.refused(("net", ("a", "b", "a"), ((0, 1, 7), (1, 2, 7))))
        self.refused(("net", ("abcdefgh", "b", "c", "abcdefgh"), ((0, 1, 7), (1, 2, 7), (1, 3, 7))))

    def test_an_empty_name(self):
        self.refused(("net", ("",), ()))
        self.refused(("net", ("a", ""), ((0, 1, 7),)))

    def test_a_name_of_nine_letters(self):
        self.refused(("net", ("abcdefghi",), ()))
        self.refused(("net", ("a", "bbbbbbbbb"), ((0, 1, 7),)))

    def test_a_name_with_a_sign_that_is_no_letter_from_a_to_z(self):
        for sign in "A Z0_-`{\n\t.\u00e4\u0431\u00aa@[":
            for name in (sign, "a" + sign, sign + "a", "a" + sign + "b"):
                self.refused(("net", (name,), ()))

    def test_a_name_that_is_no_text(self):
        for name in (7, None, True, False, (), ("a",), ["a"], []):
            self.refused(("net", (name,), ()))
            self.refused(("net", ("b", name), ((0, 1, 7),)))

    def test_eighty_one_readings(self):
        self.refused(("net", ("a", "b"), ((0, 1, 5),) * 81))

    def test_values_beyond_the_bounds(self):
        for value in (1000001, -1000001, 10 ** 30, -10 ** 30):
            self.refused(("net", ("a", "b"), ((0, 1, value),)))
            self.refused(("net", ("a", "b"), ((0, 1, 5), (1, 0, value))))

    def test_an_index_below_0(self):
        self.refused(("net", ("a", "b"), ((-1, 0, 5),)))
        self.refused(("net", ("a", "b"), ((0, -1, 5),)))
        self.refused(("net", ("a", "b"), ((0, 1, 5), (1, -2, 5))))

    def test_an_index_too_great(self):
        self.refused(("net", ("a", "b"), ((0, 2, 5),)))
        self.refused(("net", ("a", "b"), ((2, 0, 5),)))
        self.refused(("net", ("a", "b"), ((0, 1, 5), (0, 10 ** 20, 5))))

    def test_the_same_mark_twice(self):
        self.refused(("net", ("a", "b"), ((0, 1, 5), (1, 1, 0))))
        self.refused(("net", ("a",), ((0, 0, 0),)))

    def test_too_few_or_too_many_parts(self):
        self.refused(())
        self.refused(("net",))
        self.refused(("net", ("a",)))
        self.refused(("net", ("a",), (), ()))
        self.refused(("net", ("a", "b"), ((0, 1),)))
        self.refused(("net", ("a", "b"), ((0, 1, 5, 5),)))
        self.refused(("net", ("a", "b"), ((0, 1, 5), ())))

    def test_another_first_word(self):
        for word in ("nets", "Net", "", "n", 0, None, True, ("net",), ["net"]):
            self.refused((word, ("a",), ()))

    def test_true_or_false_in_the_place_of_an_integer(self):
        self.refused(("net", ("a", "b"), ((False, 1, 5),)))
        self.refused(("net", ("a", "b"), ((0, True, 5),)))
        self.refused(("net", ("a", "b"), ((0, 1, True),)))
        self.refused(("net", ("a", "b"), ((0, 1, False),)))

    def test_a_list_in_the_place_of_a_tuple_at_each_level(self):
        self.refused(["net", ("a", "b"), ((0, 1, 5),)])
        self.refused(("net", ["a", "b"], ((0, 1, 5),)))
        self.refused(("net", ("a", "b"), [(0, 1, 5)]))
        self.refused(("net", ("a", "b"), ([0, 1, 5],)))
        self.refused(("net", ("a",), []))
        for net in (LONE, PAIR, TRIANGLE):
            for thing in in_lists(net):
                self.refused(thing)

    def test_texts_integers_and_none_in_any_place(self):
        for net in (LONE, PAIR, TRIANGLE):
            for place in places(net):
                is_number = len(place) == 3
                for part in ("", "A", "ab1", "0", "abc ", None, True, False, [], [0], (None,)):
                    self.refused(with_part(net, place, part))
                if not is_number:
                    for part in (0, 1, -1, 7):
                        self.refused(with_part(net, place, part))

    def test_an_empty_tuple_in_any_place(self):
        for place in places(TRIANGLE):
            if place != (2,):
                self.refused(with_part(TRIANGLE, place, ()))

    def test_drawn_things(self):
        draw = random.Random(18)
        for _ in range(3000):
            self.refused(drawn_thing(draw))
            self.refused(("net", ("a", "b"), (drawn_thing(draw), drawn_thing(draw))))
            thing = drawn_thing(draw)
            self.refused(("net", ("a", thing, "A"), ((0, 1, 7), (1, 2, 7))))
            self.refused(("net", thing, ((0, 1, 7), (1, 2, 7), (2, 3, 7), (3, 4, 7), (4, 5, 7))))

    def test_texts_in_the_place_of_tuples(self):
        self.refused("net")
        self.refused(("net", "ab", ((0, 1, 5),)))
        self.refused(("net", ("a", "b"), "ab"))
        self.refused(("net", ("a", "b"), ("abc",)))


class NetsThatAreNotJoined(Refusing):
    def test_two_marks_without_a_reading(self):
        self.refused(("net", ("a", "b"), ()), "not joined")

    def test_a_mark_that_is_left_out(self):
        self.refused(("net", ("a", "b", "c"), ((0, 1, 7), (1, 0, 7))), "not joined")
        self.refused(("net", ("a", "b", "c"), ((1, 2, 7),)), "not joined")

    def test_two_parts(self):
        self.refused(("net", ("a", "b", "c", "d"), ((0, 1, 7), (3, 2, 7), (2, 3, 1))), "not joined")

    def test_sixteen_marks_and_one_reading_too_few(self):
        ring = tuple((mark, mark + 1, mark) for mark in range(14))
        self.refused(("net", NAMES, ring), "not joined")

    def test_what_breaks_n1_is_told_ahead(self):
        self.refused(("net", ("a", "a"), ()))
        self.refused(("net", ("a", "b", "c"), ((0, 1, 1000001),)))
        self.refused(("net", ("a", "b", "c"), ((0, 0, 5),)))
        self.refused(("net", NAMES + ("q",), ()))
        self.refused(("net", ("a", "b"), []))
        self.refused(["net", ("a", "b"), ()])


class Joined(unittest.TestCase):
    def test_one_mark(self):
        self.assertIs(is_joined(("a",), ()), True)

    def test_joined_marks(self):
        for net in (PAIR, TRIANGLE, RING) + tuple(edge_nets(3)):
            self.assertIs(is_joined(net[1], net[2]), True)

    def test_over_readings_in_both_directions(self):
        self.assertIs(is_joined(("a", "b", "c"), ((1, 0, 7), (1, 2, 7))), True)
        self.assertIs(is_joined(("a", "b", "c"), ((2, 1, 7), (1, 0, 7))), True)
        self.assertIs(is_joined(("a", "b", "c"), ((1, 2, 7), (0, 2, 7))), True)

    def test_not_joined_marks(self):
        self.assertIs(is_joined(("a", "b"), ()), False)
        self.assertIs(is_joined(("a", "b", "c"), ((0, 1, 7), (1, 0, 7))), False)
        self.assertIs(is_joined(("a", "b", "c"), ((2, 1, 7),)), False)
        self.assertIs(is_joined(("a", "b", "c", "d"), ((0, 1, 7), (2, 3, 7))), False)


def reached_by_steps(many, readings, start):
    """The marks that are reached, found by going over all readings as often as there are marks."""
    found = {start}
    for _ in range(many):
        for one, other, _ in readings:
            if one in found or other in found:
                found |= {one, other}
    return tuple(sorted(found))


class Reached(unittest.TestCase):
    def test_start_alone(self):
        self.assertEqual(reached(1, (), 0), (0,))
        self.assertEqual(reached(3, (), 1), (1,))
        self.assertEqual(reached(3, ((0, 2, 5),), 1), (1,))

    def test_each_start_of_two_parts(self):
        readings = ((3, 0, 7), (1, 4, 7), (4, 2, 7))
        self.assertEqual([reached(5, readings, start) for start in range(5)],
                         [(0, 3), (1, 2, 4), (1, 2, 4), (0, 3), (1, 2, 4)])

    def test_both_directions(self):
        for readings in (((0, 1, 1), (1, 2, 1)), ((1, 0, 1), (2, 1, 1)),
                         ((0, 1, 1), (2, 1, 1)), ((1, 0, 1), (1, 2, 1))):
            for start in range(3):
                self.assertEqual(reached(3, readings, start), (0, 1, 2))

    def test_a_long_way_backwards(self):
        readings = tuple((mark + 1, mark, 0) for mark in range(15))
        for start in range(16):
            self.assertEqual(reached(16, readings, start), tuple(range(16)))

    def test_ascending_whatever_the_order_of_the_readings(self):
        readings = ((0, 3, 1), (3, 1, 1), (1, 4, 1), (4, 2, 1))
        self.assertEqual(reached(5, readings, 0), (0, 1, 2, 3, 4))
        self.assertEqual(reached(5, readings[::-1], 2), (0, 1, 2, 3, 4))

    def test_drawn_readings_from_each_start(self):
        draw = random.Random(4)
        for _ in range(100):
            many = draw.randint(2, 8)
            readings = tuple(tuple(draw.sample(range(many), 2)) + (0,) for _ in range(draw.randint(0, 7)))
            for start in range(many):
                told = reached(many, readings, start)
                self.assertIs(type(told), tuple)
                self.assertEqual(told, reached_by_steps(many, readings, start))
            marks = NAMES[:many]
            self.assertIs(is_joined(marks, readings), len(reached_by_steps(many, readings, 0)) == many)

    def test_check_net_and_is_joined_agree(self):
        draw = random.Random(5)
        for _ in range(60):
            _, marks, readings = drawn_net(draw, draw.randint(2, 6), 0, 9)
            fewer = readings[:draw.randint(0, len(readings))]
            if is_joined(marks, fewer):
                self.assertIsNone(check_net(("net", marks, fewer)))
            else:
                with self.assertRaises(BadNet) as caught:
                    check_net(("net", marks, fewer))
                self.assertEqual((caught.exception.line, caught.exception.reason), (0, "not joined"))


if __name__ == "__main__":
    unittest.main()
