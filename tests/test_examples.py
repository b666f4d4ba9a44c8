"""The examples of the interface, and its names."""

import importlib
import inspect
import unittest

from truelevels.errors import BadNet
from truelevels.misses import cost, lies, misses
from truelevels.text import parse

INTERFACE = {
    "errors": {"LevelError": None, "BadNet": None, "BadEntry": None, "BadState": None},
    "nets": {"check_net": "net", "is_joined": "marks readings", "reached": "many readings start"},
    "text": {"shown": "net", "parse": "text"},
    "misses": {"miss_of": "reading heights", "misses": "net heights", "cost": "net heights", "lies": "net heights"},
}


class Names(unittest.TestCase):
    def test_each_name_is_defined_where_the_interface_lists_it(self):
        for file, names in INTERFACE.items():
            module = importlib.import_module("truelevels." + file)
            for name in names:
                self.assertEqual(getattr(module, name).__module__, "truelevels." + file)

    def test_the_arguments_have_the_names_of_the_interface(self):
        for file, names in INTERFACE.items():
            module = importlib.import_module("truelevels." + file)
            for name, arguments in names.items():
                if arguments is not None:
                    told = list(inspect.signature(getattr(module, name)).parameters)
                    self.assertEqual(told, arguments.split(), name)


class Examples(unittest.TestCase):
    def test_text(self):
        self.assertEqual(parse("marks a b # two\n\n  a to b is 7\nb to a is -6\n"),
                         ("net", ("a", "b"), ((0, 1, 7), (1, 0, -6))))
        with self.assertRaises(BadNet) as caught:
            parse("marks a b c\na to b is 7")
        self.assertEqual((caught.exception.line, caught.exception.reason), (0, "not joined"))

    def test_misses(self):
        net = ("net", ("a", "b"), ((0, 1, 7), (1, 0, -6), (0, 1, 6)))
        self.assertEqual((misses(net, (0, 6)), cost(net, (0, 6)), lies(net, (0, 6))), ((1, 0, 0), 1, (0,)))


if __name__ == "__main__":
    unittest.main()
