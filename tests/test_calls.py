"""c1: nothing that is handed in is changed, and the same arguments give the same answers."""

import copy
import unittest

from helpers import LONE, PAIR, RING, TRIANGLE, edge_nets, small_nets
from truelevels.errors import BadNet
from truelevels.misses import cost, lies, miss_of, misses
from truelevels.nets import check_net, is_joined, reached
from truelevels.text import parse, shown

NETS = [LONE, PAIR, TRIANGLE, RING] + small_nets(9, 12) + edge_nets(9)[:2]
TEXTS = ["marks a", "marks a b\na to b is 7", "marks a b", "marks a a", "", "%", "marks a b\na to b is 7\nx"]
THINGS = [["net", ("a",), ()], ("net", ["a", "b"], [[0, 1, 7]]), ("net", ("a", "b"), ([0, 1, True],)),
          [[], [[]], None, "net"], ("net", ("a", []), ([],)), ("net", ("b", "a"), ())]


def answer(function, arguments):
    """What a call gives back, or line and reason of what it raises."""
    try:
        return ("gives", function(*arguments))
    except BadNet as error:
        return ("raises", error.line, error.reason)


def calls():
    """Functions with arguments."""
    for net in NETS:
        heights = tuple(range(len(net[1])))
        yield check_net, (net,)
        yield is_joined, (net[1], net[2])
        yield reached, (len(net[1]), net[2], len(net[1]) - 1)
        yield shown, (net,)
        yield parse, (shown(net),)
        yield from [(function, (net, heights)) for function in (misses, cost, lies)]
        yield from [(miss_of, (reading, heights)) for reading in net[2]]
    yield from [(parse, (text,)) for text in TEXTS]
    yield from [(check_net, (thing,)) for thing in THINGS]


class Calls(unittest.TestCase):
    def test_arguments_are_not_changed(self):
        for function, arguments in calls():
            kept = copy.deepcopy(arguments)
            answer(function, arguments)
            self.assertEqual(repr(arguments), repr(kept))

    def test_the_same_arguments_give_the_same_answers(self):
        made = list(calls())
        first = [answer(function, copy.deepcopy(arguments)) for function, arguments in made]
        second = [answer(function, copy.deepcopy(arguments)) for function, arguments in made[::-1]]
        self.assertEqual(first, second[::-1])

    def test_answers_are_made_of_tuples_texts_and_integers(self):
        for function, arguments in calls():
            for part in parts_of(answer(function, arguments)):
                self.assertIn(type(part), (tuple, str, int, bool, type(None)))


def parts_of(thing):
    """The thing and all that it is made of."""
    yield thing
    if isinstance(thing, (tuple, list)):
        for part in thing:
            yield from parts_of(part)


if __name__ == "__main__":
    unittest.main()
