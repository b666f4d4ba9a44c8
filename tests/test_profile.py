"""truelevels.profile: x6."""

import random
import unittest

from helpers import LONE, NAMES, PAIR, drawn_net
from truelevels.profile import profile


def path_of(names):
    """A net with these marks."""
    return ("net", names, tuple((mark, mark + 1, 0) for mark in range(len(names) - 1)))


def read_back(text, width):
    """The heights of names, and the differences between lines, from the text of a profile."""
    found = []
    steps = []
    for place, line in enumerate(text.split("\n")[:-1]):
        if place % 2:
            steps.append(int(line[width + 3:]))
        else:
            found.append((int(line[:width]), line[width + 1:].split(" ")))
    return found, steps


class Profiles(unittest.TestCase):
    def has(self, names, heights, lines):
        told = profile(path_of(names), heights)
        self.assertEqual(told, "".join(line + "\n" for line in lines))
        self.assertIs(type(told), str)

    def test_one_mark(self):
        self.assertEqual(profile(LONE, (0,)), "0 a\n")
        self.has(("datum",), (0,), ["0 datum"])

    def test_two_marks(self):
        self.assertEqual(profile(PAIR, (0, 7)), "7 b\n  | 7\n0 a\n")
        self.has(("a", "b"), (0, 1), ["1 b", "  | 1", "0 a"])
        self.has(("a", "b"), (0, 0), ["0 a b"])

    def test_heights_of_several_widths(self):
        self.has(("a", "b", "c"), (0, 10, 1000), ["1000 c", "     | 990", "  10 b", "     | 10", "   0 a"])
        self.has(("a", "b", "c"), (0, 12345678, 9), ["12345678 b", "         | 12345669", "       9 c",
                                                     "         | 9", "       0 a"])

    def test_heights_below_0(self):
        self.has(("a", "b"), (0, -5), [" 0 a", "   | 5", "-5 b"])
        self.has(("a", "b", "c"), (0, -5, 12), ["12 c", "   | 12", " 0 a", "   | 5", "-5 b"])
        self.has(("a", "b", "c"), (0, -1000000, 12), ["      12 c", "         | 12", "       0 a",
                                                      "         | 1000000", "-1000000 b"])

    def test_several_marks_with_one_height(self):
        self.has(("zoo", "b", "a", "m", "c"), (0, 3, 0, 3, -2),
                 [" 3 b m", "   | 3", " 0 zoo a", "   | 2", "-2 c"])
        self.has(("z", "y", "x"), (0, 0, 0), ["0 z y x"])

    def test_the_widest_height_is_not_the_greatest(self):
        self.has(("a", "b", "c"), (0, 7, -100), ["   7 b", "     | 7", "   0 a", "     | 100", "-100 c"])

    def test_drawn_heights_are_read_back(self):
        draw = random.Random(130)
        for _ in range(200):
            many = draw.randint(1, 16)
            most = draw.choice((1, 3, 20, 10 ** 6))
            heights = (0,) + tuple(draw.randint(-most, most) for _ in range(many - 1))
            net = drawn_net(draw, many, 20, 9)
            told = profile(net, heights)
            self.assertTrue(told.endswith("\n"))
            width = max(len(str(height)) for height in heights)
            found, steps = read_back(told, width)
            levels = [level for level, _ in found]
            self.assertEqual(levels, sorted(set(heights), reverse=True))
            for level, names in found:
                self.assertEqual(names, [NAMES[mark] for mark in range(many) if heights[mark] == level])
            self.assertEqual(steps, [above - below for above, below in zip(levels, levels[1:])])
            for place, line in enumerate(told.split("\n")[:-1]):
                self.assertEqual(line[width:width + 3] if place % 2 else line[width], " | " if place % 2 else " ")
                self.assertTrue(not line[:width].strip() or place % 2 == 0)


if __name__ == "__main__":
    unittest.main()
