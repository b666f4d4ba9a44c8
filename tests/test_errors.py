"""truelevels.errors."""

import unittest

from truelevels.errors import BadEntry, BadNet, BadState, LevelError


class TheClasses(unittest.TestCase):
    def test_the_base_is_a_value_error(self):
        self.assertTrue(issubclass(LevelError, ValueError))
        self.assertIsNot(LevelError, ValueError)

    def test_the_others_are_under_the_base(self):
        for kind in (BadNet, BadEntry, BadState):
            self.assertTrue(issubclass(kind, LevelError))
            self.assertIsNot(kind, LevelError)

    def test_none_is_under_another(self):
        kinds = (BadNet, BadEntry, BadState)
        for kind in kinds:
            for other in kinds:
                self.assertEqual(issubclass(kind, other), kind is other)

    def test_a_base_error_is_none_of_the_others(self):
        self.assertNotIsInstance(LevelError("x"), (BadNet, BadEntry, BadState))

    def test_errors_are_caught_as_what_they_are_under(self):
        for made in (BadNet(1, "x"), BadEntry(2), BadState()):
            for kind in (LevelError, ValueError, type(made)):
                with self.assertRaises(kind):
                    raise made

    def test_errors_are_not_caught_as_one_another(self):
        for made in (BadNet(1, "x"), BadEntry(2), BadState()):
            others = tuple(kind for kind in (BadNet, BadEntry, BadState) if kind is not type(made))
            try:
                raise made
            except others:
                self.fail("caught as another one")
            except LevelError:
                pass


class TheFields(unittest.TestCase):
    def test_a_bad_net_has_line_and_reason(self):
        made = BadNet(3, "same mark")
        self.assertEqual((made.line, made.reason), (3, "same mark"))

    def test_a_bad_net_by_keywords(self):
        made = BadNet(line=0, reason="not joined")
        self.assertEqual((made.line, made.reason), (0, "not joined"))

    def test_two_bad_nets_have_their_own_fields(self):
        first = BadNet(1, "x")
        second = BadNet(2, "y")
        self.assertEqual((first.line, first.reason, second.line, second.reason), (1, "x", 2, "y"))

    def test_a_bad_entry_has_a_place(self):
        self.assertEqual(BadEntry(7).place, 7)
        self.assertEqual(BadEntry(0).place, 0)

    def test_a_bad_state_is_made_without_arguments(self):
        self.assertIsInstance(BadState(), LevelError)


if __name__ == "__main__":
    unittest.main()
