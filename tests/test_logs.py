"""truelevels.logs: k4 and k5."""

import random
import unittest

from desks import MILLION, PAIR, Model, all_told, desk_of, drawn_deed
from helpers import NAMES, drawn_thing, in_lists
from truelevels.desk import Desk
from truelevels.errors import BadEntry
from truelevels.logs import mended, read_log, replay, shown_log

LOG = (("mark", "a"), ("mark", "bb"), ("read", "a", "bb", 7), ("read", "bb", "a", -1000000), ("drop", 0), ("bound", 20),
       ("read", "bb", "a", 0), ("drop", 2), ("mark", "read"), ("bound", 0))
TEXT = ("mark a\nmark bb\nread a bb 7\nread bb a -1000000\ndrop 0\nbound 20\nread bb a 0\ndrop 2\nmark read\nbound 0\n")
# Signs that end lines elsewhere, or look like spaces.
OTHER_ENDS = ("\r", "\x0b", "\x0c", "\x1c", "\x1d", "\x1e", "\x85", "\u2028", "\u2029", "\t", "\x00", "\u00a0", "\u3000")


def drawn_log(draw, many):
    """A log with about so many entries."""
    model = Model()
    for _ in range(many):
        deed = drawn_deed(draw, model)
        if model.can(deed):
            model.entries.append(deed)
    return tuple(model.entries)


def line_of(entry):
    """The line of an entry."""
    return " ".join(map(str, entry)) + "\n"


def number_by_hand(word):
    """The integer of a word that is a number, or None."""
    digits = word[1:] if word[:1] == "-" else word
    if word == "0":
        return 0
    if not 1 <= len(digits) <= 7 or digits[0] == "0" or any(sign not in "0123456789" for sign in digits):
        return None
    return int(word)


def log_by_hand(text):
    """The log of the longest beginning of a text that is one of a log, and the length of that beginning."""
    model = Model()
    length = 0
    while "\n" in text[length:]:
        line = text[length:text.index("\n", length)]
        words = line.split(" ")
        sizes = {"mark": 2, "read": 4, "drop": 2, "bound": 2}
        if len(words) != sizes.get(words[0]):
            break
        if words[0] != "mark":
            words[-1] = number_by_hand(words[-1])
            if words[-1] is None:
                break
        if not model.can(tuple(words)):
            break
        model.entries.append(tuple(words))
        length += len(line) + 1
    return tuple(model.entries), length


class Logs(unittest.TestCase):
    def bad(self, place, function, *arguments):
        with self.assertRaises(BadEntry) as caught:
            function(*arguments)
        self.assertIs(type(caught.exception), BadEntry)
        self.assertEqual(caught.exception.place, place, arguments)
        self.assertIs(type(caught.exception.place), int)


class Showing(Logs):
    def test_each_kind_of_deed(self):
        self.assertEqual(shown_log((("mark", "abcdefgh"),)), "mark abcdefgh\n")
        self.assertEqual(shown_log((("read", "a", "to", 7),)), "read a to 7\n")
        self.assertEqual(shown_log((("read", "a", "to", -1000000),)), "read a to -1000000\n")
        self.assertEqual(shown_log((("drop", 12),)), "drop 12\n")
        self.assertEqual(shown_log((("bound", 0),)), "bound 0\n")

    def test_whole_logs(self):
        self.assertEqual(shown_log(()), "")
        self.assertEqual(shown_log(LOG), TEXT)
        self.assertEqual(shown_log(PAIR), "mark a\nmark b\nread a b 7\nread b a -7\nread a b 9\n")

    def test_reading_gives_the_log_back(self):
        draw = random.Random(300)
        for many in (1, 5, 20, 60, 200):
            for _ in range(10):
                log = drawn_log(draw, many)
                text = shown_log(log)
                self.assertEqual(text, "".join(map(line_of, log)))
                self.assertEqual(read_log(text), log)
                self.assertEqual(mended(text), (log, len(text)))


class Replaying(Logs):
    def test_the_desk_of_a_log(self):
        for log in ((), LOG, PAIR, LOG[:4]):
            desk = replay(log)
            self.assertIs(type(desk), Desk)
            self.assertEqual(all_told(desk), all_told(desk_of(log)))
            self.assertEqual(desk.log(), log)

    def test_it_answers_alike_and_goes_on_alike(self):
        draw = random.Random(301)
        for _ in range(25):
            log = drawn_log(draw, draw.randint(1, 60))
            first = desk_of(log)
            second = replay(first.log())
            model = Model()
            model.entries = list(log)
            for _ in range(20):
                self.assertEqual(all_told(first), all_told(second))
                deed = drawn_deed(draw, model)
                if model.can(deed):
                    first.do(deed)
                    second.do(deed)
                    model.entries.append(deed)
                elif model.entries:
                    first.undo()
                    second.undo()
                    model.entries.pop()

    def test_undone_desks_go_on_from_where_they_are(self):
        desk = desk_of(PAIR)
        desk.undo()
        other = replay(desk.log())
        other.do(("read", "b", "a", 1))
        self.assertEqual(other.numbers(), (0, 1, 2))

    def test_desks_of_one_log_are_apart(self):
        first = replay(PAIR)
        second = replay(PAIR)
        first.undo()
        self.assertEqual((len(first.log()), len(second.log())), (4, 5))

    def test_entries_that_cannot_be_done(self):
        for place in range(len(LOG) + 1):
            for entry in (("bound", 21), ("drop", 3), ("mark", "a" if place else "A"), ("read", "a", "c", 1), ("drop", True),
                          (), ("undo",)):
                self.bad(place, replay, LOG[:place] + (entry,) + LOG[place:])
        self.bad(4, replay, PAIR[:4] + (("drop", 5), ("drop", 6)))
        self.bad(0, replay, (("read", "a", "b", 1),))
        self.bad(2, replay, (("mark", "a"), ("mark", "b"), ("mark", "b")))

    def test_logs_without_a_logs_shape_within_them(self):
        for place in range(len(LOG)):
            for thing in (None, True, False, 0, 7, "", "mark c", [], ["mark", "c"], ("mark", ["c"]), ("mark", None),
                          (("mark", "c"),), (["mark"], "c"), ("mark",), ("mark", "c", "d")):
                self.bad(place, replay, LOG[:place] + (thing,) + LOG[place + 1:])
        draw = random.Random(302)
        for _ in range(500):
            self.bad(2, replay, LOG[:2] + (drawn_thing(draw),) + LOG[2:])
        for entry in LOG[:4]:
            for changed in in_lists(entry):
                self.bad(LOG.index(entry), replay, LOG[:LOG.index(entry)] + (changed,))

    def test_logs_of_1000_and_of_1001_entries(self):
        log = PAIR + tuple(("bound", n % 21) for n in range(995))
        self.assertEqual(replay(log).log(), log)
        self.bad(1000, replay, log + (("bound", 1),))
        self.bad(1000, replay, log + (None,))
        self.bad(1000, replay, log + (("bound", 1),) * 500)


class Reading(Logs):
    def test_the_empty_text(self):
        self.assertEqual(read_log(""), ())

    def test_each_kind_of_line(self):
        self.assertEqual(read_log(TEXT), LOG)
        for count in range(len(LOG) + 1):
            self.assertEqual(read_log("".join(map(line_of, LOG[:count]))), LOG[:count])

    def test_numbers_are_integers(self):
        for entry in read_log(TEXT):
            self.assertEqual([type(part) for part in entry][:-1], [str] * (len(entry) - 1))
            self.assertIs(type(entry[-1]), str if entry[0] == "mark" else int)

    def test_lines_that_are_none(self):
        ahead = "mark a\nmark b\nread a b 7\n"
        for line in ("", " ", "mark", "mark ", "marks c", "Mark c", "MARK c", "mark c d", "mark c ", " mark c", "mark  c",
                     "mark C", "mark c1", "mark abcdefghi", "mark a", "mark c#", "#", "# mark c", "mark c # x",
                     "read a b", "read a b 5 6", "read a b 5 ", " read a b 5", "read  a b 5", "read a  b 5", "read a b  5",
                     "reads a b 5", "read a b five", "read a c 5", "read c a 5", "read a a 5", "read a b 1000001",
                     "read a b -1000001", "read a 5", "read a b c", "read", "drop", "drop 0 0", "drop 1", "drop -1",
                     "drop a", "drops 0", "drop  0", "drop 0 ", " drop 0", "bound", "bound 21", "bound -1", "bound 1 1",
                     "bound a", "bounds 1", "bound  1", "bound 1 ", " bound 1", "undo", "log", "a to b is 7", "5", "0",
                     "mark 5", "xyz 5", "drop bound 1", "bound drop 0", "mark read a b 5"):
            self.bad(3, read_log, ahead + line + "\n")
            self.bad(3, read_log, ahead + line + "\nbound 1\n")
        for line in ("mark A", "", "read a b 5", "drop 0"):
            self.bad(0, read_log, line + "\n" + ahead)

    def test_numbers_that_are_none(self):
        ahead = "mark a\nmark b\nread a b 7\n"
        for word in ("+5", "05", "00", "-0", "-05", "--5", "-", "", "5.0", "1e3", "1_0", "10000000", "-10000000", "00000001",
                     "0x5", "5-", "\u0665", "\u00b2", "\uff15", "1\u0660", "five", "5,", "True", "None", "'5'", "5\r", "5\t"):
            self.bad(3, read_log, ahead + "read a b " + word + "\n")
            self.bad(3, read_log, ahead + "bound " + word + "\n")
            self.bad(3, read_log, ahead + "drop " + word + "\n")
        for word in ("0", "5", "-5", "1000000", "-1000000", "999999"):
            self.assertEqual(read_log(ahead + "read a b " + word + "\n")[-1], ("read", "a", "b", int(word)))

    def test_numbers_of_7_and_of_8_digits(self):
        self.bad(2, read_log, "mark a\nmark b\nread a b 9999999\n")
        self.bad(2, read_log, "mark a\nmark b\nread a b " + "9" * 5000 + "\n")
        self.assertEqual(read_log("mark a\nmark b\nread a b 1000000\n")[-1], ("read", "a", "b", MILLION))

    def test_other_signs_that_end_lines_elsewhere(self):
        for sign in OTHER_ENDS:
            self.bad(1, read_log, "mark a\nmark b" + sign + "mark c\n")
            self.bad(1, read_log, "mark a\nmark b" + sign + "\nmark c\n")
            self.bad(1, read_log, "mark a\n" + sign + "mark b\n")
            self.bad(1, read_log, "mark a\nmark" + sign + "b\n")
            self.bad(1, read_log, "mark a\nbound 1" + sign + "\n")
            self.bad(1, read_log, "mark a\nbound 1" + sign + "bound 2\n")
            self.bad(1, read_log, "mark a\nbound" + sign + "1\n")
            self.bad(1, read_log, "mark a\n" + sign)
            self.bad(0, read_log, sign)

    def test_a_last_line_without_its_newline(self):
        self.bad(0, read_log, "mark a")
        self.bad(1, read_log, "mark a\nmark b")
        self.bad(len(LOG) - 1, read_log, TEXT[:-1])
        self.bad(0, read_log, "m")
        self.bad(1, read_log, "mark a\n ")

    def test_newlines_alone(self):
        self.bad(0, read_log, "\n")
        self.bad(1, read_log, "mark a\n\n")
        self.bad(1, read_log, "mark a\n\nmark b\n")
        self.bad(len(LOG), read_log, TEXT + "\n")

    def test_lines_that_cannot_be_done_there(self):
        self.bad(0, read_log, "drop 0\n")
        self.bad(3, read_log, "mark a\nmark b\nread a b 1\ndrop 1\nread a b 1\n")
        self.bad(4, read_log, "mark a\nmark b\nread a b 1\ndrop 0\ndrop 0\n")
        self.bad(1, read_log, "mark a\nmark a\n")
        self.bad(16, read_log, "".join(f"mark {name}\n" for name in NAMES + ("q",)))
        self.bad(82, read_log, "mark a\nmark b\n" + "read a b 1\n" * 81)

    def test_the_first_fault_counts(self):
        self.bad(1, read_log, "mark a\nmark A\nmark B\nxyz")
        self.bad(0, read_log, "xyz\nmark A\n")

    def test_logs_of_1000_and_of_1001_entries(self):
        text = "mark a\n" + "bound 1\n" * 999
        self.assertEqual(len(read_log(text)), 1000)
        self.bad(1000, read_log, text + "bound 1\n")
        self.bad(1000, read_log, text + "bound 1")
        self.bad(1000, read_log, text + "\n")
        self.bad(1000, read_log, text + "bound 1\n" * 5000)

    def test_changed_texts_beside_a_reader_of_the_tests_own(self):
        draw = random.Random(303)
        signs = "\n\n  abmrd0127-+\r#\u2028"
        seen = set()
        for _ in range(3000):
            text = TEXT
            for _ in range(draw.randint(0, 2)):
                at = draw.randrange(len(text) + 1)
                text = text[:at] + draw.choice(("", draw.choice(signs))) + text[at + draw.randint(0, 1):]
            log, length = log_by_hand(text)
            seen.add((length == len(text), len(log)))
            if length == len(text):
                self.assertEqual(read_log(text), log)
            else:
                self.bad(len(log), read_log, text)
            self.assertEqual(mended(text), (log, length))
        self.assertTrue({(True, 10), (False, 0), (False, 9)} <= seen)


class Mending(Logs):
    def test_hand_made_texts(self):
        self.assertEqual(mended(""), ((), 0))
        self.assertEqual(mended("mark a\nmark b"), ((("mark", "a"),), 7))
        self.assertEqual(mended("mark a\nmark b\n"), ((("mark", "a"), ("mark", "b")), 14))
        self.assertEqual(mended("mark"), ((), 0))
        self.assertEqual(mended("\n"), ((), 0))
        self.assertEqual(mended("xyz\nmark a\n"), ((), 0))
        self.assertEqual(mended("mark a\nxyz\nmark b\n"), ((("mark", "a"),), 7))
        self.assertEqual(mended("mark a\n\n"), ((("mark", "a"),), 7))

    def test_texts_cut_off_at_every_place(self):
        draw = random.Random(304)
        for log in (LOG, PAIR, drawn_log(draw, 40)):
            text = shown_log(log)
            for cut in range(len(text) + 1):
                whole = text[:cut].count("\n")
                length = text[:cut].rfind("\n") + 1
                self.assertEqual(mended(text[:cut]), (log[:whole], length))
                self.assertEqual(read_log(text[:length]), log[:whole])

    def test_one_line_put_wrong(self):
        lines = TEXT.split("\n")[:-1]
        for place in range(len(lines)):
            for wrong in ("", "x", lines[place] + " ", " " + lines[place], lines[place] + "\r", lines[place].upper(),
                          lines[place].replace(" ", "  ", 1), "bound 21", "drop 99", "mark A"):
                text = "\n".join(lines[:place] + [wrong] + lines[place + 1:]) + "\n"
                log, length = mended(text)
                self.assertEqual(log, LOG[:place])
                self.assertEqual(text[:length], shown_log(LOG[:place]))

    def test_anything_at_all(self):
        draw = random.Random(305)
        signs = ("mark", "read", "drop", "bound", "a", "b", "c", " ", "\n", "0", "1", "-", "\r", "\u2028", "\x00", "mark a\n",
                 "mark b\n", "read a b 1\n", "drop 0\n", "bound 2\n", "\U0001f600", "\ud800", "\u0661")
        for _ in range(4000):
            text = "".join(draw.choice(signs) for _ in range(draw.randint(0, 12)))
            told = mended(text)
            self.assertEqual(told, log_by_hand(text), ascii(text))
            self.assertIs(type(told), tuple)
            self.assertEqual(read_log(text[:told[1]]), told[0])
            self.assertEqual(replay(told[0]).log(), told[0])

    def test_no_longer_beginning_is_the_text_of_a_log(self):
        draw = random.Random(306)
        for _ in range(60):
            at = draw.randrange(len(TEXT))
            text = TEXT[:at] + draw.choice("\nx 0") + TEXT[at:]
            log, length = mended(text)
            self.assertEqual(read_log(text[:length]), log)
            for longer in range(length + 1, len(text) + 1):
                with self.assertRaises(BadEntry):
                    read_log(text[:longer])

    def test_gone_on_with_it_is_the_desk_of_all_deeds(self):
        draw = random.Random(307)
        for _ in range(20):
            log = drawn_log(draw, 50)
            text = shown_log(log)
            kept, length = mended(text[:draw.randint(0, len(text))])
            desk = replay(kept)
            for deed in log[len(kept):]:
                desk.do(deed)
            self.assertEqual(all_told(desk), all_told(desk_of(log)))
            self.assertEqual(shown_log(kept), text[:length])

    def test_more_than_1000_entries(self):
        text = "mark a\n" + "bound 1\n" * 1500
        log, length = mended(text)
        self.assertEqual((len(log), length), (1000, 7 + 8 * 999))

    def test_long_lines(self):
        self.assertEqual(mended("mark " + "a" * 100000 + "\n"), ((), 0))
        self.assertEqual(mended("mark a\nbound " + "1" * 100000 + "\n"), ((("mark", "a"),), 7))


if __name__ == "__main__":
    unittest.main()
