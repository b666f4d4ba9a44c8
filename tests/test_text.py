"""truelevels.text: s1 and s2."""

import unittest

from helpers import LONE, NAMES, PAIR, edge_nets, small_nets
from truelevels.errors import BadNet
from truelevels.text import parse, shown

TWO = ("net", ("a", "b"), ((0, 1, 7),))
FULL = "marks a b\n" + "a to b is 7\n" * 80


class Parsing(unittest.TestCase):
    def refused(self, text, line, reason):
        with self.assertRaises(BadNet) as caught:
            parse(text)
        self.assertEqual((caught.exception.line, caught.exception.reason), (line, reason), text[:60])
        self.assertIs(type(caught.exception.line), int)


class Showing(unittest.TestCase):
    def test_one_mark(self):
        self.assertEqual(shown(LONE), "marks a\n")
        self.assertEqual(shown(("net", ("abcdefgh",), ())), "marks abcdefgh\n")

    def test_from_ahead_of_to(self):
        net = ("net", ("a", "b", "c"), ((0, 1, 7), (2, 1, -8), (2, 0, 0)))
        self.assertEqual(shown(net), "marks a b c\na to b is 7\nc to b is -8\nc to a is 0\n")

    def test_values(self):
        for value, word in ((0, "0"), (1000000, "1000000"), (-1000000, "-1000000"), (-1, "-1"), (10, "10")):
            self.assertEqual(shown(("net", ("a", "b"), ((1, 0, value),))), f"marks a b\nb to a is {word}\n")

    def test_marks_named_as_words(self):
        net = ("net", ("to", "is", "marks"), ((0, 1, 5), (2, 0, -3), (1, 2, 0)))
        self.assertEqual(shown(net), "marks to is marks\nto to is is 5\nmarks to to is -3\nis to marks is 0\n")
        self.assertEqual(parse(shown(net)), net)

    def test_a_net_at_the_bounds(self):
        net = edge_nets(7)[0]
        lines = shown(net).split("\n")
        self.assertEqual(len(lines), 82)
        self.assertEqual(lines[0], "marks a b c d e f g h i j k l m n o p")
        self.assertEqual(lines[1], "a to b is 1000000")
        self.assertEqual(lines[80], "p to a is -1000000")
        self.assertEqual(lines[81], "")

    def test_parse_gives_back_what_is_shown(self):
        named = ("net", ("longname", "b", "othername"[:8]), ((0, 1, 999999), (1, 2, -10), (1, 2, 0)))
        for net in [LONE, PAIR, named] + small_nets(8, 60, most=1000000) + edge_nets(8):
            self.assertEqual(parse(shown(net)), net)

    def test_the_longest_text(self):
        marks = tuple("abcdefg" + letter for letter in "abcdefghijklmnop")
        readings = tuple((mark % 16, (mark + 1) % 16, -1000000) for mark in range(80))
        self.assertEqual(parse(shown(("net", marks, readings))), ("net", marks, readings))


class Reading(Parsing):
    def test_one_mark(self):
        for text in ("marks a", "marks a\n", "\n\nmarks a\n\n"):
            self.assertEqual(parse(text), LONE)

    def test_with_and_without_a_last_newline(self):
        self.assertEqual(parse("marks a b\na to b is 7\n"), TWO)
        self.assertEqual(parse("marks a b\na to b is 7"), TWO)

    def test_more_spaces(self):
        self.assertEqual(parse("  marks   a  b  \n a  to b    is   7   "), TWO)

    def test_empty_lines(self):
        self.assertEqual(parse("\n  \nmarks a b\n\n   \na to b is 7\n\n\n"), TWO)

    def test_comments(self):
        self.assertEqual(parse("# a net\nmarks a b # two\n  #\na to b is 7 #x y # z\n#\n"), TWO)
        self.assertEqual(parse("marks a b #c d\na to b is 7 # is 8"), TWO)
        self.assertEqual(parse("#marks x\n###\nmarks a b\n#a to b is 8\na to b is 7"), TWO)

    def test_a_sign_for_a_comment_within_a_word(self):
        self.refused("marks a b#c", 1, "not a name")
        self.refused("marks#x a b", 1, "marks expected")
        self.refused("marks a b\na to b is 7#x", 2, "not a number")
        self.refused("marks a b\na to b# is 7", 2, "unknown mark")

    def test_a_line_cut_short_by_a_comment(self):
        self.refused("marks # a b", 1, "marks expected")
        self.refused("marks a b\na to b is # 7", 2, "unknown line")

    def test_from_and_to_are_kept_apart(self):
        self.assertEqual(parse("marks a b c\nc to a is 2\na to b is -3\nb to a is 3\n"),
                         ("net", ("a", "b", "c"), ((2, 0, 2), (0, 1, -3), (1, 0, 3))))

    def test_marks_named_as_words(self):
        self.assertEqual(parse("marks to is\nto to is is 7\nis to to is 8"),
                         ("net", ("to", "is"), ((0, 1, 7), (1, 0, 8))))
        self.assertEqual(parse("marks marks\n"), ("net", ("marks",), ()))
        self.assertEqual(parse("marks marks b\nmarks to b is 7"), ("net", ("marks", "b"), ((0, 1, 7),)))

    def test_numbers(self):
        for word, value in (("0", 0), ("7", 7), ("-7", -7), ("10", 10), ("1000000", 1000000), ("-1000000", -1000000),
                            ("999999", 999999), ("-20", -20), ("-999999", -999999)):
            self.assertEqual(parse(f"marks a b\na to b is {word}"), ("net", ("a", "b"), ((0, 1, value),)))

    def test_sixteen_marks_and_eighty_readings(self):
        self.assertEqual(parse(FULL), ("net", ("a", "b"), ((0, 1, 7),) * 80))
        chain = "".join(f"{one} to {other} is 0\n" for one, other in zip(NAMES, NAMES[1:]))
        self.assertEqual(parse("marks " + " ".join(NAMES) + "\n" + chain)[1], NAMES)

    def test_eighty_readings_and_lines_without_words(self):
        self.assertEqual(len(parse(FULL.replace("\n", " # x\n\n"))[2]), 80)

    def test_names_of_eight_letters(self):
        self.assertEqual(parse("marks abcdefgh z\nz to abcdefgh is 1"), ("net", ("abcdefgh", "z"), ((1, 0, 1),)))


class FaultsOfTheFirstLine(Parsing):
    def test_another_first_word(self):
        for text in ("a to b is 7", "mark a b", "Marks a b", "marksa b", "marks: a", "a marks", "0"):
            self.refused(text, 1, "marks expected")

    def test_no_name(self):
        for text in ("marks", "  marks  ", "marks # a", "marks\na to b is 7"):
            self.refused(text, 1, "marks expected")

    def test_its_line(self):
        self.refused("\n# x\n  \nmark a\n", 4, "marks expected")
        self.refused("\n\nmarks\n", 3, "marks expected")
        self.refused("\n\nmarks a A\n", 3, "not a name")
        self.refused("# x\nmarks a b a\n", 2, "name twice")

    def test_no_line_with_words(self):
        for text, line in (("", 1), ("   ", 1), ("# marks a", 1), ("\n", 2), ("# x\n\n", 3), (" \n \n # \n  ", 4)):
            self.refused(text, line, "marks expected")

    def test_not_a_name(self):
        for name in ("A", "aB", "abcdefghi", "a1", "7", "a_b", "a-b", "a.", "-"):
            self.refused(f"marks {name}", 1, "not a name")
            self.refused(f"marks a {name} b", 1, "not a name")

    def test_a_name_twice(self):
        self.refused("marks a a", 1, "name twice")
        self.refused("marks a b c a", 1, "name twice")
        self.refused("marks marks marks", 1, "name twice")

    def test_a_seventeenth_mark(self):
        self.refused("marks " + " ".join(NAMES) + " q", 1, "too many")
        self.refused("\nmarks " + " ".join(NAMES) + " q r s # t", 2, "too many")

    def test_a_seventeenth_mark_in_a_comment(self):
        with self.assertRaises(BadNet) as caught:
            parse("marks " + " ".join(NAMES) + " # q")
        self.assertEqual((caught.exception.line, caught.exception.reason), (0, "not joined"))

    def test_the_order_of_the_reasons(self):
        many = " ".join(NAMES)
        self.refused("names A a a", 1, "marks expected")
        self.refused("marks a a A", 1, "not a name")
        self.refused("marks A A", 1, "not a name")
        self.refused("marks " + many + " Q", 1, "not a name")
        self.refused("marks " + many + " a A", 1, "not a name")
        self.refused("marks " + many + " a", 1, "name twice")
        self.refused("marks " + many + " q q", 1, "name twice")
        self.refused("names " + many + " q", 1, "marks expected")


class FaultsOfOtherLines(Parsing):
    def line(self, line, reason):
        self.refused("marks a b c\na to b is 7\n\n" + line + "\nb to c is 7\n", 4, reason)

    def test_unknown_lines(self):
        for line in ("a", "a to b", "a to b is", "a to b is 7 8", "a to b is 7 m", "a To b is 7", "a to b Is 7",
                     "a is b to 7", "to a b is 7", "a b to is 7", "marks a b c", "marks a", "a to b = 7", "a at b is 7",
                     "a to b is - 7", "7 a to b is"):
            self.line(line, "unknown line")

    def test_unknown_marks(self):
        for line in ("x to b is 7", "a to x is 7", "x to y is 7", "A to b is 7", "a to B is 7", "to to is is 7",
                     "a to aa is 7", "0 to 1 is 7", "marks to a is 7", "a to ab is 7"):
            self.line(line, "unknown mark")

    def test_the_same_mark(self):
        for line in ("a to a is 7", "c to c is 0"):
            self.line(line, "same mark")

    def test_no_numbers(self):
        for word in ("-0", "007", "+7", "00", "-", "--7", "7-", "7.0", "7.", "1e3", "1_000", "1,000", "0x1", "x", "-07",
                     "10000000", "-10000000", "12345678", "00000000", "01", "7a", "-a", "+0", "(7)"):
            self.line("a to b is " + word, "not a number")

    def test_out_of_range(self):
        for word in ("1000001", "-1000001", "9999999", "-9999999", "2000000"):
            self.line("a to b is " + word, "out of range")

    def test_an_eighty_first_reading(self):
        self.refused(FULL + "b to a is 7\n", 82, "too many")
        self.refused(FULL + "b to a is 7\nb to a is 7\nx\n", 82, "too many")
        self.refused("\n" + FULL + "# x\n\nb to a is 7", 85, "too many")

    def test_the_order_of_the_reasons(self):
        self.line("x to x are 10000000", "unknown line")
        self.line("a to a is", "unknown line")
        self.line("x to b is -0 c", "unknown line")
        self.line("x to x is 7", "unknown mark")
        self.line("x to a is -0", "unknown mark")
        self.line("a to x is 1000001", "unknown mark")
        self.line("a to a is -0", "same mark")
        self.line("a to a is 1000001", "same mark")
        self.line("a to b is 10000001", "not a number")
        self.line("a to b is 01000001", "not a number")

    def test_too_many_comes_last(self):
        for line, reason in (("a to b", "unknown line"), ("x to b is 7", "unknown mark"), ("a to a is 7", "same mark"),
                             ("a to b is -0", "not a number"), ("a to b is 1000001", "out of range")):
            self.refused(FULL + line, 82, reason)

    def test_the_first_line_with_a_fault(self):
        self.refused("marks a b\na to b is 1000001\na to\n", 2, "out of range")
        self.refused("marks a b\na to b is 7\nb to b is 7\nx to b is 7\n", 3, "same mark")
        self.refused("marks a a\na to\n", 1, "name twice")
        self.refused("marks " + " ".join(NAMES) + " q\nx\n", 1, "too many")
        self.refused("x\nmarks a a\n", 1, "marks expected")
        self.refused("\n\nmarks a b\n# x\na to b is 08\na to b is x\n", 5, "not a number")

    def test_faults_are_told_ahead_of_not_joined(self):
        self.refused("marks a b c\na to b is 7\na to b is -0", 3, "not a number")
        self.refused("marks a b c\na to", 2, "unknown line")


class NotJoined(Parsing):
    def test_line_0(self):
        self.refused("marks a b", 0, "not joined")
        self.refused("marks a b c\na to b is 7", 0, "not joined")
        self.refused("marks a b c d\na to b is 7\nd to c is 7\n", 0, "not joined")
        self.refused("\n# x\nmarks a b c\nb to c is 7\nc to b is 7", 0, "not joined")


class TextsThatAreNotAllowed(Parsing):
    def test_ten_thousand_characters(self):
        text = "marks a b\na to b is 7\n#"
        self.assertEqual(parse(text + "x" * (10000 - len(text))), TWO)
        self.assertEqual(parse(text + "\n" * (10000 - len(text))), TWO)
        self.assertEqual(parse(" " * (10000 - len(text)) + text), TWO)
        self.refused(text + "x" * (10001 - len(text)), 1, "text not allowed")
        self.refused(text + "\n" * (10001 - len(text)), 1, "text not allowed")
        self.refused(" " * 10001, 1, "text not allowed")

    def test_each_character_from_the_space_to_the_tilde(self):
        for code in range(32, 127):
            text = "marks a b\n# " + chr(code) + "x\na to b is 7\n"
            if chr(code) == "%":
                self.refused(text, 1, "text not allowed")
            else:
                self.assertEqual(parse(text), TWO)

    def test_other_characters(self):
        for sign in "\t\r\0\x0b\x0c\x1b\x1f\x7f\x80\x85\xa0\u00e4\u0660\u2028\ufeff\U0001f600%":
            for text in (sign, "marks a b\na to b is 7 #" + sign, sign + "marks a b\na to b is 7",
                         "marks a" + sign + "b\na to b is 7", "marks a b\na to b is 7" + sign):
                self.refused(text, 1, "text not allowed")

    def test_ahead_of_all(self):
        self.refused("\n\nx\n%", 1, "text not allowed")
        self.refused("\n\nmarks a a\n# 5%", 1, "text not allowed")
        self.refused("marks a b\n#%", 1, "text not allowed")
        self.refused("x" * 10001, 1, "text not allowed")
        self.refused("\n\n\n%\n", 1, "text not allowed")


if __name__ == "__main__":
    unittest.main()
