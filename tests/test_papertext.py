"""truelevels.papertext: x7."""

import random
import unittest

from helpers import LONE, PAIR, TRIANGLE, edge_nets, is_plain, small_nets
from truelevels.adjust import best_paper
from truelevels.errors import BadNet
from truelevels.papertext import parse_paper, shown_paper
from truelevels.weights import weighted_paper

GOOD = "best\nheights 0 7\nflow 1 1 0\n"


class Writing(unittest.TestCase):
    def test_hand_made_papers(self):
        self.assertEqual(shown_paper(("best", (0, 7), (1, 1, 0))), GOOD)
        self.assertEqual(shown_paper(("weighted", (0, -7), (-100, 12, 0))), "weighted\nheights 0 -7\nflow -100 12 0\n")

    def test_a_net_without_readings(self):
        self.assertEqual(shown_paper(("best", (0,), ())), "best\nheights 0\nflow\n")
        self.assertEqual(shown_paper(("weighted", (0,), ())), "weighted\nheights 0\nflow\n")

    def test_numbers_of_12_digits(self):
        self.assertEqual(shown_paper(("best", (0, 999999999999, -999999999999), (1,))),
                         "best\nheights 0 999999999999 -999999999999\nflow 1\n")


class Reading(unittest.TestCase):
    def gives_back(self, net, paper):
        told = parse_paper(net, shown_paper(paper))
        self.assertEqual(told, paper)
        self.assertEqual([type(part) for part in told], [str, tuple, tuple])
        self.assertTrue(all(map(is_plain, told[1] + told[2])))

    def test_hand_made_texts(self):
        self.assertEqual(parse_paper(PAIR, GOOD), ("best", (0, 7), (1, 1, 0)))
        self.assertEqual(parse_paper(PAIR, "weighted\nheights 0 -7\nflow -100 12 0\n"),
                         ("weighted", (0, -7), (-100, 12, 0)))

    def test_a_net_without_readings(self):
        self.assertEqual(parse_paper(LONE, "best\nheights 0\nflow\n"), ("best", (0,), ()))

    def test_papers_that_do_not_hold_are_read_as_well(self):
        self.assertEqual(parse_paper(PAIR, "best\nheights 5 7\nflow 9 1 -4\n"), ("best", (5, 7), (9, 1, -4)))

    def test_papers_of_the_program(self):
        draw = random.Random(140)
        for net in small_nets(140, 60, most_marks=8, most_readings=20, most=1000000) + edge_nets(140) + [TRIANGLE]:
            self.gives_back(net, best_paper(net))
            self.gives_back(net, weighted_paper(net, tuple(draw.randint(1, 100) for _ in net[2])))

    def test_drawn_papers(self):
        draw = random.Random(141)
        for _ in range(200):
            for net in (LONE, PAIR, TRIANGLE):
                rows = [tuple(draw.choice((-1, 1)) * draw.randrange(10 ** draw.randint(0, 12)) for _ in part)
                        for part in net[1:]]
                self.gives_back(net, (draw.choice(("best", "weighted")), rows[0], rows[1]))


class Refusals(unittest.TestCase):
    def refused(self, text, line, reason, net=PAIR):
        with self.assertRaises(BadNet) as caught:
            parse_paper(net, text)
        self.assertEqual((caught.exception.line, caught.exception.reason), (line, reason), text)
        self.assertIs(type(caught.exception.line), int)

    def test_the_first_line(self):
        for first in ("", " best", "best ", "Best", "BEST", "bests", "weight", "weighted paper", "best best", "strength",
                      "heights 0 7", "flow 1 1 0", "best\t", "#best", "0", "best\r"):
            self.refused(GOOD.replace("best", first), 1, "unknown line")
        self.refused("", 1, "unknown line")
        self.refused("\n", 1, "unknown line")
        self.refused("\n" + GOOD, 1, "unknown line")
        self.refused("x", 1, "unknown line")

    def test_the_first_line_ahead_of_the_number_of_newlines(self):
        for text in ("best ", "best \n", "x\nheights 0 7\n", "x\ny\nz\n\n", "x\ny\nz\n ", "\n\n\n\n\n"):
            self.refused(text, 1, "unknown line")

    def test_the_number_of_newlines(self):
        self.refused("best", 1, "three lines expected")
        self.refused("weighted", 1, "three lines expected")
        self.refused("best\n", 2, "three lines expected")
        self.refused("best\nheights 0 7", 2, "three lines expected")
        self.refused("best\nheights 0 7\n", 3, "three lines expected")
        self.refused(GOOD[:-1], 3, "three lines expected")
        self.refused(GOOD + "\n", 5, "three lines expected")
        self.refused(GOOD + "\n\n", 6, "three lines expected")
        self.refused(GOOD + GOOD, 7, "three lines expected")
        self.refused("best\n\nheights 0 7\nflow 1 1 0\n", 5, "three lines expected")

    def test_something_behind_the_last_newline(self):
        for more in (" ", "x", "0", "#", "\t"):
            self.refused(GOOD + more, 4, "three lines expected")
        self.refused(GOOD + "\nx", 5, "three lines expected")

    def test_the_number_of_newlines_ahead_of_the_other_lines(self):
        self.refused("best\nx\ny", 3, "three lines expected")
        self.refused("best\nx\ny\n\n", 5, "three lines expected")
        self.refused("best\nx\ny\nz", 4, "three lines expected")
        self.refused("best\nheights x\nflow\n\n", 5, "three lines expected")

    def both(self, reason, words):
        """Check a reason for words in the place of the numbers of the second and of the third line."""
        for told in words:
            self.refused(f"best\nheights{told}\nflow 1 1 0\n", 2, reason)
            self.refused(f"weighted\nheights{told}\nflow 1 1 0\n", 2, reason)

    def test_another_first_word(self):
        for line in ("", " ", "height 0 7", "Heights 0 7", " heights 0 7", "flow 0 7", "0 7", "heights: 0 7",
                     "heights\t0 7", "heightss 0 7", "height s 0 7"):
            self.refused(f"best\n{line}\nflow 1 1 0\n", 2, "heights expected")
        for line in ("", " ", "flows 1 1 0", "Flow 1 1 0", " flow 1 1 0", "heights 1 1 0", "1 1 0", "flow\t1 1 0"):
            self.refused(f"best\nheights 0 7\n{line}\n", 3, "flow expected")

    def test_the_number_of_words(self):
        self.both("wrong number of words", ("", " 0", " 0 7 9", " 0 7 ", " 0  7", "  0 7", " ", " x", " 0 x 7", "   "))
        for line in ("", " 1", " 1 1", " 1 1 0 0", " 1 1 0 ", " 1 1  0", "  1 1 0", " x", " x y z 0", " "):
            self.refused(f"best\nheights 0 7\nflow{line}\n", 3, "wrong number of words")

    def test_the_number_of_words_of_a_net_without_readings(self):
        for line, fault in (("flow ", "wrong number of words"), ("flow 0", "wrong number of words"),
                            ("flow  ", "wrong number of words"), ("", "flow expected")):
            self.refused(f"best\nheights 0\n{line}\n", 3, fault, LONE)
        self.refused("best\nheights\nflow\n", 2, "wrong number of words", LONE)
        self.refused("best\nheights 0 0\nflow\n", 2, "wrong number of words", LONE)

    def test_words_that_are_no_number(self):
        for word in ("-0", "00", "007", "+7", "-", "--7", "-07", "7-", "1234567890123", "-1234567890123", "", "x", "7x",
                     "x7", "1.0", "1e3", "1_0", "0x1", "\u0661", "\u00b2", "\u0967", "7\t", "\t7", "7\r", "1,0", "#7",
                     "-\u0661", "True", "0000000000000"):
            for place in range(2):
                words = ["0", "7"]
                words[place] = word
                self.refused("best\nheights " + " ".join(words) + "\nflow 1 1 0\n", 2, "not a number")
            for place in range(3):
                words = ["1", "1", "0"]
                words[place] = word
                self.refused("best\nheights 0 7\nflow " + " ".join(words) + "\n", 3, "not a number")

    def test_numbers_at_their_bounds(self):
        for word in ("0", "9", "-9", "999999999999", "-999999999999", "100000000000", "-1"):
            self.assertEqual(parse_paper(PAIR, f"best\nheights 0 {word}\nflow {word} 1 0\n"),
                             ("best", (0, int(word)), (int(word), 1, 0)))

    def test_an_empty_word_as_one_of_the_numbers(self):
        self.refused("best\nheights 0 \nflow 1 1 0\n", 2, "not a number")
        self.refused("best\nheights  7\nflow 1 1 0\n", 2, "not a number")
        self.refused("best\nheights  \nflow 1 1 0\n", 2, "not a number")
        self.refused("best\nheights 0 7\nflow 1 1 \n", 3, "not a number")
        self.refused("best\nheights 0 7\nflow 1  0\n", 3, "not a number")

    def test_within_a_line_the_word_and_the_number_of_words_go_first(self):
        self.refused("best\nheight 0\nflow 1 1 0\n", 2, "heights expected")
        self.refused("best\nheight x y z\nflow 1 1 0\n", 2, "heights expected")
        self.refused("best\nheights x y z\nflow 1 1 0\n", 2, "wrong number of words")
        self.refused("best\nheights 0 7\nflows x\n", 3, "flow expected")
        self.refused("best\nheights 0 7\nflow x\n", 3, "wrong number of words")

    def test_the_second_line_ahead_of_the_third(self):
        for line, fault in (("height 0 7", "heights expected"), ("heights 0", "wrong number of words"),
                            ("heights 0 x", "not a number")):
            for last in ("", "flows 1 1 0", "flow 1", "flow 1 1 x"):
                self.refused(f"best\n{line}\n{last}\n", 2, fault)


if __name__ == "__main__":
    unittest.main()
