"""truelevels.desk: k1 to k4."""

import itertools
import random
import unittest
from unittest import mock

import truelevels.worlds
from desks import MILLION, PAIR, Model, all_told, desk_of, drawn_deed
from helpers import NAMES, drawn_thing, in_lists, places, spans_by_search, with_part
from truelevels.adjust import best_paper
from truelevels.cuts import strength
from truelevels.desk import Desk
from truelevels.errors import BadEntry, BadState
from truelevels.spans import spans
from truelevels.worlds import is_safe, verdicts, worlds


class Desks(unittest.TestCase):
    def like(self, desk, model):
        """Check a desk against the model."""
        self.assertEqual(desk.log(), tuple(model.entries))
        self.assertEqual(desk.numbers(), tuple(model.rows()))
        self.assertEqual(desk.bound(), model.bound())
        self.assertEqual(desk.parts(), model.parts())
        if model.marks():
            self.assertEqual(desk.net(), model.net())
        else:
            self.no_answer(desk.net)

    def no_answer(self, call):
        with self.assertRaises(BadState) as caught:
            call()
        self.assertIs(type(caught.exception), BadState)

    def refused(self, desk, deed):
        """Check that a deed is refused and changes nothing."""
        before = all_told(desk)
        with self.assertRaises(BadEntry) as caught:
            desk.do(deed)
        self.assertIs(type(caught.exception), BadEntry)
        self.assertEqual(caught.exception.place, len(desk.log()))
        self.assertIs(type(caught.exception.place), int)
        self.assertEqual(all_told(desk), before, deed)

    def refused_at_once(self, desk, deed):
        """The same without all that a desk tells."""
        before = (desk.log(), desk.numbers(), desk.bound(), desk.parts())
        with self.assertRaises(BadEntry) as caught:
            desk.do(deed)
        self.assertIs(type(caught.exception), BadEntry)
        self.assertEqual(caught.exception.place, len(desk.log()))
        self.assertEqual((desk.log(), desk.numbers(), desk.bound(), desk.parts()), before, deed)


class DeedByDeed(Desks):
    def test_a_desk_without_marks(self):
        desk = Desk()
        self.no_answer(desk.net)
        self.assertEqual((desk.numbers(), desk.bound(), desk.parts(), desk.log()), ((), 0, (), ()))
        desk.do(("bound", 5))
        self.no_answer(desk.net)
        self.assertEqual((desk.numbers(), desk.bound(), desk.parts()), ((), 5, ()))

    def test_marks_and_readings(self):
        desk = desk_of(PAIR)
        self.assertEqual(desk.net(), ("net", ("a", "b"), ((0, 1, 7), (1, 0, -7), (0, 1, 9))))
        self.assertEqual((desk.numbers(), desk.bound(), desk.parts()), ((0, 1, 2), 0, (("a", "b"),)))
        self.assertEqual(desk.log(), PAIR)

    def test_marks_have_the_order_in_which_they_came(self):
        desk = desk_of((("mark", "zz"), ("mark", "to"), ("mark", "a"), ("read", "a", "zz", 5), ("read", "to", "a", -3)))
        self.assertEqual(desk.net(), ("net", ("zz", "to", "a"), ((2, 0, 5), (1, 2, -3))))
        self.assertEqual(desk.parts(), (("zz", "to", "a"),))

    def test_numbers_are_not_used_again(self):
        desk = desk_of(PAIR + (("drop", 1),))
        self.assertEqual((desk.numbers(), desk.net()[2]), ((0, 2), ((0, 1, 7), (0, 1, 9))))
        desk.do(("drop", 2))
        desk.do(("read", "b", "a", 1))
        self.assertEqual((desk.numbers(), desk.net()[2]), ((0, 3), ((0, 1, 7), (1, 0, 1))))
        for number in (1, 2, 4):
            self.refused(desk, ("drop", number))
        desk.do(("drop", 0))
        desk.do(("drop", 3))
        self.assertEqual((desk.numbers(), desk.net()), ((), ("net", ("a", "b"), ())))
        desk.do(("read", "b", "a", 1))
        self.assertEqual(desk.numbers(), (4,))

    def test_bounds(self):
        desk = Desk()
        for k in (0, 1, 20, 7, 7):
            desk.do(("bound", k))
            self.assertEqual(desk.bound(), k)
        self.assertEqual(len(desk.log()), 5)

    def test_a_net_that_is_not_joined_is_told(self):
        desk = desk_of((("mark", "a"), ("mark", "b"), ("mark", "c"), ("read", "c", "a", 1)))
        self.assertEqual(desk.net(), ("net", ("a", "b", "c"), ((2, 0, 1),)))

    def test_beside_the_model(self):
        draw = random.Random(290)
        done = {}
        for _ in range(40):
            desk = Desk()
            model = Model()
            for _ in range(draw.randint(5, 80)):
                deed = drawn_deed(draw, model)
                if model.can(deed):
                    self.assertIsNone(desk.do(deed))
                    model.entries.append(deed)
                else:
                    self.refused_at_once(desk, deed)
                done[deed[0], len(model.entries) > 0 and model.entries[-1] == deed] = True
                self.like(desk, model)
                if model.entries and draw.random() < 0.1:
                    self.assertIsNone(desk.undo())
                    model.entries.pop()
                    self.like(desk, model)
        self.assertEqual(len(done), 8)

    def test_two_desks_are_apart(self):
        first = desk_of(PAIR)
        second = Desk()
        second.do(("mark", "q"))
        self.assertEqual((first.log(), second.log()), (PAIR, (("mark", "q"),)))
        self.assertEqual(second.parts(), (("q",),))

    def test_what_a_desk_told_stays(self):
        desk = desk_of(PAIR)
        told = (desk.net(), desk.numbers(), desk.parts(), desk.log())
        desk.do(("drop", 0))
        desk.do(("mark", "c"))
        self.assertEqual(told, (("net", ("a", "b"), ((0, 1, 7), (1, 0, -7), (0, 1, 9))), (0, 1, 2), (("a", "b"),), PAIR))
        for part in told:
            self.assertIs(type(part), tuple)


class Refusing(Desks):
    def test_names_that_are_none(self):
        desk = desk_of(PAIR)
        for name in ("", "A", "a b", "abcdefghi", "a1", " a", "a\n", "\u00e4", "a_", None, True, False, 0, 5, (), ("c",), [],
                     ["c"]):
            self.refused(desk, ("mark", name))
            self.refused(Desk(), ("mark", name))

    def test_a_name_that_a_mark_has(self):
        desk = desk_of(PAIR)
        self.refused(desk, ("mark", "a"))
        self.refused(desk, ("mark", "b"))
        desk.do(("mark", "ab"))
        self.refused(desk, ("mark", "ab"))

    def test_a_seventeenth_mark(self):
        desk = desk_of([("mark", name) for name in NAMES])
        self.refused(desk, ("mark", "q"))
        self.refused(desk, ("mark", "a"))
        self.assertEqual(len(desk.net()[1]), 16)
        desk.undo()
        desk.do(("mark", "q"))

    def test_marks_that_there_are_not(self):
        desk = desk_of(PAIR)
        for name in ("c", "", "ab", "A", None, True, 0, 1, (), ("a",), [], ["a"]):
            self.refused(desk, ("read", "a", name, 5))
            self.refused(desk, ("read", name, "a", 5))
        self.refused(Desk(), ("read", "a", "b", 5))

    def test_the_same_mark_twice(self):
        desk = desk_of(PAIR)
        self.refused(desk, ("read", "a", "a", 5))
        self.refused(desk, ("read", "b", "b", 0))

    def test_values_beyond_the_bounds(self):
        desk = desk_of(PAIR)
        for value in (MILLION + 1, -MILLION - 1, 10 ** 30, -10 ** 30):
            self.refused(desk, ("read", "a", "b", value))
        for value in (MILLION, -MILLION):
            desk.do(("read", "a", "b", value))
        self.assertEqual(desk.net()[2][-2:], ((0, 1, MILLION), (0, 1, -MILLION)))

    def test_values_that_are_no_integers(self):
        desk = desk_of(PAIR)
        for value in (True, False, None, "5", "", (), (5,), [], [5]):
            self.refused(desk, ("read", "a", "b", value))

    def test_an_81st_reading(self):
        desk = desk_of(PAIR[:2] + (("read", "a", "b", 5),) * 80)
        self.refused(desk, ("read", "a", "b", 5))
        desk.do(("drop", 17))
        desk.do(("read", "b", "a", 6))
        self.assertEqual(len(desk.numbers()), 80)
        self.assertEqual(desk.numbers()[-1], 80)
        self.refused(desk, ("read", "a", "b", 5))
        for number in (0, 1, 2, 80):
            desk.do(("drop", number))
        for _ in range(4):
            desk.do(("read", "b", "a", 6))
        self.assertEqual(desk.numbers()[-5:], (79, 81, 82, 83, 84))
        self.refused(desk, ("read", "a", "b", 5))

    def test_numbers_that_no_present_reading_has(self):
        desk = desk_of(PAIR)
        for number in (3, 4, -1, -3, 10 ** 30, True, False, None, "0", "", (), (0,), [], [0]):
            self.refused(desk, ("drop", number))
        self.refused(Desk(), ("drop", 0))
        desk.do(("drop", 0))
        self.refused(desk, ("drop", 0))
        self.refused(desk, ("drop", False))

    def test_bounds_that_are_none(self):
        desk = desk_of(PAIR)
        for k in (21, 22, -1, -20, 10 ** 30, True, False, None, "1", "", (), (1,), [], [1]):
            self.refused(desk, ("bound", k))
            self.refused(Desk(), ("bound", k))

    def test_deeds_of_another_kind_or_length(self):
        desk = desk_of(PAIR)
        for deed in ((), ("mark",), ("read",), ("drop",), ("bound",), ("mark", "c", "d"), ("read", "a", "b"),
                     ("read", "a", "b", 5, 5), ("read", "a", 5), ("drop", 0, 1), ("bound", 1, 2), ("Mark", "c"),
                     ("marks", "c"), ("undo",), ("log",), ("net", 5), ("", "c"), ("c", "mark"), (0, "c"), (None, "c"),
                     (True, 5), (("mark",), "c"), (["mark"], "c"), ("mark", "a", "b", 5), ("drop", "a", "b", 5),
                     ("bound", "a", "b", 5), ("read", 5), ("", "a", "b", 5), (None, "a", "b", 5), None, True, False,
                     0, 5, "", "mark", "mark c", "read a b 5", [], ["mark", "c"], ["read", "a", "b", 5], ["drop", 0],
                     ["bound", 1], (("mark", "c"),), [("mark", "c")], (("mark", "c"), ("mark", "d"))):
            self.refused(desk, deed)
            self.refused(Desk(), deed)

    def test_other_things_at_every_place(self):
        desk = desk_of(PAIR)
        for deed in (("mark", "c"), ("read", "a", "b", 5), ("drop", 0), ("bound", 1)):
            for changed in in_lists(deed):
                self.refused(desk, changed)
            for place in places(deed):
                for part in (None, True, False, (), [], ["a"], ("a",), "A", ""):
                    self.refused(desk, with_part(deed, place, part))

    def test_anything(self):
        draw = random.Random(291)
        desk = desk_of(PAIR)
        for _ in range(2000):
            self.refused_at_once(desk, drawn_thing(draw))

    def test_a_full_log(self):
        deeds = list(PAIR) + [("bound", n % 21) for n in range(994)]
        desk = desk_of(deeds)
        desk.do(("mark", "c"))
        self.assertEqual(len(desk.log()), 1000)
        for deed in (("mark", "d"), ("read", "a", "b", 5), ("drop", 0), ("bound", 1), ("bound", 21), None):
            self.refused(desk, deed)
        desk.undo()
        desk.do(("read", "a", "b", 5))
        self.refused(desk, ("bound", 1))
        self.assertEqual((len(desk.log()), desk.numbers()), (1000, (0, 1, 2, 3)))

    def test_what_is_refused_does_not_change_the_number_of_the_next_reading(self):
        desk = desk_of(PAIR)
        for deed in (("read", "a", "b", MILLION + 1), ("read", "a", "c", 1), ("read", "a", "a", 1), ("drop", 9), None):
            self.refused(desk, deed)
        desk.do(("read", "a", "b", 5))
        self.assertEqual(desk.numbers(), (0, 1, 2, 3))

    def test_the_place_is_the_number_of_entries(self):
        desk = Desk()
        for many, deed in enumerate(PAIR):
            self.refused(desk, ("bound", 21))
            self.assertEqual(len(desk.log()), many)
            desk.do(deed)
        desk.undo()
        self.refused(desk, None)


class Answers(Desks):
    def answers(self, desk):
        """Check the answers for a net that is joined by those of the functions."""
        net = desk.net()
        k = desk.bound()
        heights = best_paper(net)[1]
        self.assertEqual(desk.heights(), tuple(zip(net[1], heights)))
        self.assertEqual(desk.spans(), tuple((name,) + span for name, span in zip(net[1], spans(net))))
        self.assertEqual(desk.strength(), strength(net))
        self.assertIs(desk.is_safe(), is_safe(net, k))
        self.assertEqual(desk.parts(), (net[1],))
        try:
            words = verdicts(net, k)
        except BadState:
            self.no_answer(desk.verdicts)
        else:
            self.assertEqual(desk.verdicts(), tuple(zip(desk.numbers(), words)))
            self.assertEqual(len(desk.verdicts()), len(words))

    def test_hand_made_desks(self):
        desk = desk_of(PAIR + (("bound", 1),))
        self.assertEqual(desk.heights(), (("a", 0), ("b", 7)))
        self.assertEqual(desk.spans(), (("a", 0, 0), ("b", 7, 7)))
        self.assertEqual((desk.strength(), desk.is_safe()), (3, True))
        self.assertEqual(desk.verdicts(), ((0, "kept"), (1, "kept"), (2, "lies")))
        desk.do(("bound", 2))
        self.assertIs(desk.is_safe(), False)
        self.assertEqual(desk.verdicts(), ((0, "open"), (1, "open"), (2, "open")))
        desk.do(("bound", 3))
        self.no_answer(desk.verdicts)
        self.assertEqual(desk.strength(), 3)
        desk.do(("bound", 0))
        self.assertEqual(desk.verdicts(), ())

    def test_numbers_of_readings_that_stayed(self):
        desk = desk_of(PAIR + (("read", "b", "a", -7), ("drop", 0), ("bound", 1)))
        self.assertEqual(desk.verdicts(), ((1, "kept"), (2, "lies"), (3, "kept")))
        self.assertEqual(desk.heights(), (("a", 0), ("b", 7)))

    def test_spans_that_are_not_one_height(self):
        desk = desk_of(PAIR[:3] + PAIR[4:])
        self.assertEqual(desk.spans(), (("a", 0, 0), ("b", 7, 9)))
        self.assertEqual(spans_by_search(desk.net(), 12), ((0, 0), (7, 9)))

    def test_one_mark(self):
        desk = desk_of((("mark", "q"),))
        for k in (0, 1, 20):
            desk.do(("bound", k))
            self.assertEqual((desk.heights(), desk.spans()), ((("q", 0),), (("q", 0, 0),)))
            self.assertEqual((desk.strength(), desk.verdicts(), desk.parts()), (-1, (), (("q",),)))
            self.assertIs(desk.is_safe(), True)

    def test_no_marks(self):
        for deeds in ((), (("bound", 3),)):
            desk = desk_of(deeds)
            for call in (desk.heights, desk.spans, desk.strength, desk.is_safe, desk.verdicts, desk.net):
                self.no_answer(call)

    def test_nets_that_are_not_joined(self):
        marks = (("mark", "a"), ("mark", "b"), ("mark", "c"))
        for deeds in (marks[:2], marks, marks + (("read", "a", "b", 5),), marks + (("read", "b", "c", 5),),
                      PAIR + (("drop", 0), ("drop", 1), ("drop", 2)), PAIR + (("mark", "c"),)):
            desk = desk_of(deeds)
            for call in (desk.heights, desk.spans, desk.strength, desk.is_safe, desk.verdicts):
                self.no_answer(call)
            self.assertEqual(desk.net()[0], "net")
            self.assertGreater(len(desk.parts()), 1)
        desk.do(("read", "c", "b", 1))
        self.answers(desk)

    def test_too_many_worlds(self):
        desk = desk_of(PAIR + (("bound", 2),))
        with mock.patch.object(truelevels.worlds, "MOST_WORLDS", 1):
            self.no_answer(desk.verdicts)
            self.assertIs(desk.is_safe(), False)
        self.assertEqual(len(desk.verdicts()), 3)

    def test_nets_with_several_worlds(self):
        draw = random.Random(292)
        for _ in range(30):
            desk = desk_of([("mark", name) for name in NAMES[:6]])
            for turn in range(5):
                for mark in range(6):
                    desk.do(("read", NAMES[mark], NAMES[(mark + 1) % 6], draw.randint(0, 1) * turn))
            for k in (0, 3, 6, 9, 10):
                desk.do(("bound", k))
                self.answers(desk)

    def test_beside_the_functions(self):
        draw = random.Random(293)
        seen = set()
        for _ in range(60):
            desk = Desk()
            model = Model()
            for _ in range(draw.randint(10, 50)):
                deed = drawn_deed(draw, model)
                if model.can(deed):
                    desk.do(deed)
                    model.entries.append(deed)
            joined = len(model.parts()) == 1
            seen.add((joined, len(model.marks()) > 1))
            if joined:
                self.answers(desk)
                for k in (0, 1, 2):
                    desk.do(("bound", k))
                    self.answers(desk)
            else:
                for call in (desk.heights, desk.spans, desk.strength, desk.is_safe, desk.verdicts):
                    self.no_answer(call)
        self.assertTrue({(True, True), (False, True)} <= seen)

    def test_parts(self):
        desk = desk_of([("mark", name) for name in "dcba"])
        self.assertEqual(desk.parts(), (("d",), ("c",), ("b",), ("a",)))
        desk.do(("read", "a", "c", 1))
        self.assertEqual(desk.parts(), (("d",), ("c", "a"), ("b",)))
        desk.do(("read", "b", "d", 1))
        self.assertEqual(desk.parts(), (("d", "b"), ("c", "a")))
        desk.do(("read", "b", "a", 1))
        self.assertEqual(desk.parts(), (("d", "c", "b", "a"),))
        desk.do(("drop", 0))
        self.assertEqual(desk.parts(), (("d", "b", "a"), ("c",)))

    def test_answers_change_nothing(self):
        desk = desk_of(PAIR + (("bound", 1),))
        first = all_told(desk)
        self.assertEqual(all_told(desk), first)
        self.assertEqual(desk.log(), PAIR + (("bound", 1),))

    def test_worlds_stand_behind_verdicts(self):
        desk = desk_of(PAIR + (("bound", 2),))
        self.assertEqual(worlds(desk.net(), desk.bound()), ((0, 7), (0, 9)))


class Undoing(Desks):
    def test_no_entry(self):
        desk = Desk()
        self.no_answer(desk.undo)
        self.refused(desk, None)
        self.no_answer(desk.undo)
        desk.do(("mark", "a"))
        self.assertIsNone(desk.undo())
        self.no_answer(desk.undo)
        self.assertEqual(all_told(desk), all_told(Desk()))

    def test_each_kind_of_deed(self):
        for deed in (("mark", "c"), ("read", "a", "b", 5), ("drop", 1), ("bound", 1)):
            desk = desk_of(PAIR)
            before = all_told(desk)
            desk.do(deed)
            self.assertNotEqual(all_told(desk), before)
            self.assertIsNone(desk.undo())
            self.assertEqual(all_told(desk), before)

    def test_the_next_number_is_taken_back_too(self):
        desk = desk_of(PAIR)
        desk.do(("read", "a", "b", 1))
        desk.undo()
        desk.do(("read", "a", "b", 2))
        self.assertEqual((desk.numbers(), desk.net()[2][-1]), ((0, 1, 2, 3), (0, 1, 2)))
        desk.do(("drop", 3))
        desk.undo()
        self.assertEqual(desk.numbers(), (0, 1, 2, 3))
        desk.do(("drop", 3))
        desk.do(("read", "a", "b", 4))
        self.assertEqual(desk.numbers(), (0, 1, 2, 4))
        desk.undo()
        desk.undo()
        self.assertEqual((desk.numbers(), desk.net()[2][-1]), ((0, 1, 2, 3), (0, 1, 2)))

    def test_a_dropped_reading_comes_back_to_its_place(self):
        desk = desk_of(PAIR + (("drop", 1),))
        desk.undo()
        self.assertEqual((desk.numbers(), desk.net()[2]), ((0, 1, 2), ((0, 1, 7), (1, 0, -7), (0, 1, 9))))

    def test_through_every_moment_to_the_empty_desk(self):
        draw = random.Random(294)
        for _ in range(6):
            desk = Desk()
            model = Model()
            moments = [all_told(desk)]
            for _ in range(80):
                deed = drawn_deed(draw, model)
                if model.can(deed):
                    desk.do(deed)
                    model.entries.append(deed)
                    moments.append(all_told(desk))
            while len(moments) > 1:
                self.assertEqual(all_told(desk), moments.pop())
                desk.undo()
                model.entries.pop()
                self.like(desk, model)
            self.assertEqual([all_told(desk)], moments)
            self.no_answer(desk.undo)

    def test_refused_deeds_are_not_undone(self):
        desk = desk_of(PAIR)
        self.refused(desk, ("mark", "a"))
        desk.undo()
        self.assertEqual(desk.log(), PAIR[:-1])

    def test_doing_again(self):
        desk = desk_of(PAIR)
        for _ in range(3):
            desk.undo()
        for deed in PAIR[2:]:
            desk.do(deed)
        self.assertEqual(all_told(desk), all_told(desk_of(PAIR)))


class Interface(unittest.TestCase):
    def test_methods_are_defined_in_the_class_itself(self):
        for name in ("do", "undo", "log", "net", "numbers", "bound", "parts", "heights", "spans", "strength", "is_safe",
                     "verdicts"):
            self.assertIn(name, vars(Desk))

    def test_all_orders_of_some_deeds(self):
        for deeds in itertools.permutations((("mark", "c"), ("bound", 3), ("read", "a", "b", 1))):
            self.assertEqual(len(desk_of(PAIR + deeds).log()), 8)


if __name__ == "__main__":
    unittest.main()
