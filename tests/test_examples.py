"""The examples of the interface, and its names."""

import importlib
import inspect
import unittest

from truelevels.adjust import best_paper
from truelevels.classes import classes, is_sure
from truelevels.cuts import cut_of, strength
from truelevels.desk import Desk
from truelevels.errors import BadNet
from truelevels.leastcuts import least_cuts, weak_readings
from truelevels.logs import mended, shown_log
from truelevels.misses import cost, lies, misses
from truelevels.more import lack
from truelevels.near import bound
from truelevels.papertext import shown_paper
from truelevels.planjudge import judge_plan
from truelevels.profile import profile
from truelevels.reports import report
from truelevels.rings import closings, rings
from truelevels.spans import is_one, spans
from truelevels.text import parse
from truelevels.tree import cut_tree, least_size
from truelevels.trusted import homes, merged
from truelevels.weights import broken_side, firmness, twin_of
from truelevels.worlds import is_safe, most_lies, verdicts, worlds

INTERFACE = {
    "errors": {"LevelError": None, "BadNet": None, "BadEntry": None, "BadState": None},
    "nets": {"check_net": "net", "is_joined": "marks readings", "reached": "many readings start"},
    "text": {"shown": "net", "parse": "text"},
    "misses": {"miss_of": "reading heights", "misses": "net heights", "cost": "net heights", "lies": "net heights"},
    "adjust": {"best_paper": "net"},
    "judge": {"judge": "net paper", "is_even": "net flow", "worth": "net flow"},
    "spans": {"spans": "net", "is_one": "net"},
    "cuts": {"cut_of": "net side", "least_cut": "net one other", "strength": "net", "strength_paper": "net"},
    "weights": {"check_weights": "net weights", "weighted_cost": "net weights heights", "weighted_paper": "net weights",
                "judge_weighted": "net weights paper", "broken_side": "net weights k", "firmness": "net weights",
                "twin_of": "net weights side k"},
    "tree": {"cut_tree": "net", "least_size": "tree one other"},
    "worlds": {"is_world": "net k heights", "worlds": "net k", "verdicts": "net k", "is_safe": "net k",
               "twins": "net k", "most_lies": "net"},
    "classes": {"classes": "net t", "is_sure": "net k one other", "sure_against": "net one other",
                "sure_heights": "net k heights"},
    "leastcuts": {"least_cuts": "net", "weak_readings": "net", "best_pair": "net"},
    "asks": {"asks": "net k", "depth_of": "tree", "followed": "net tree heights"},
    "profile": {"profile": "net heights"},
    "papertext": {"shown_paper": "paper", "parse_paper": "net text"},
    "bridges": {"bridges": "net", "halves": "net index", "unseen": "net index more", "best_further": "net"},
    "waytext": {"ways_text": "net one other", "sure_text": "net k heights"},
    "checks": {"check_heights": "net thing", "check_side": "net thing", "check_indices": "net thing"},
    "rings": {"rings": "net", "closing": "net ring", "closings": "net", "is_ring": "net ring",
              "explanations": "net k", "are_seen": "net k"},
    "near": {"bound": "net k r", "is_near": "net k r heights", "far_apart": "first second",
             "doubts": "net k r heights"},
    "trusted": {"homes": "net trusted", "merged": "net trusted", "heights_of": "net trusted heights",
                "trusted_best": "net trusted", "sure_lies": "net trusted", "is_safe_with": "net trusted k",
                "fewest_trusted": "net k"},
    "more": {"plan_of": "net t", "lack": "net t marks"},
    "planjudge": {"judge_plan": "net t plan"},
    "desk": {"Desk": ""},
    "logs": {"shown_log": "log", "replay": "log", "read_log": "text", "mended": "text"},
    "reports": {"report": "net"},
}
METHODS = {"do": "deed", "undo": "", "log": "", "net": "", "numbers": "", "bound": "", "parts": "", "heights": "",
           "spans": "", "strength": "", "is_safe": "", "verdicts": ""}


class Names(unittest.TestCase):
    def test_each_name_is_defined_where_the_interface_lists_it(self):
        for file, names in INTERFACE.items():
            module = importlib.import_module("truelevels." + file)
            for name in names:
                self.assertEqual(getattr(module, name).__module__, "truelevels." + file)

    def test_the_arguments_have_the_names_of_the_interface(self):
        for file, names in INTERFACE.items():
            module = importlib.import_module("truelevels." + file)
            for name, arguments in names.items():
                if arguments is not None:
                    told = list(inspect.signature(getattr(module, name)).parameters)
                    self.assertEqual(told, arguments.split(), name)

    def test_the_methods_of_a_desk(self):
        for name, arguments in METHODS.items():
            told = list(inspect.signature(vars(Desk)[name]).parameters)
            self.assertEqual(told, ["self"] + arguments.split(), name)


class Examples(unittest.TestCase):
    def test_text(self):
        self.assertEqual(parse("marks a b # two\n\n  a to b is 7\nb to a is -6\n"),
                         ("net", ("a", "b"), ((0, 1, 7), (1, 0, -6))))
        with self.assertRaises(BadNet) as caught:
            parse("marks a b c\na to b is 7")
        self.assertEqual((caught.exception.line, caught.exception.reason), (0, "not joined"))

    def test_misses(self):
        net = ("net", ("a", "b"), ((0, 1, 7), (1, 0, -6), (0, 1, 6)))
        self.assertEqual((misses(net, (0, 6)), cost(net, (0, 6)), lies(net, (0, 6))), ((1, 0, 0), 1, (0,)))

    def test_adjust(self):
        self.assertEqual(best_paper(("net", ("a", "b"), ((0, 1, 7), (1, 0, -6), (0, 1, 6))))[1], (0, 6))

    def test_spans(self):
        net = ("net", ("a", "b"), ((0, 1, 7), (0, 1, 5)))
        self.assertEqual((spans(net), is_one(net)), (((0, 0), (5, 7)), False))

    def test_cuts(self):
        net = ("net", ("a", "b", "c"), ((0, 1, 7), (0, 1, 5), (1, 2, 3), (2, 0, 1)))
        self.assertEqual((cut_of(net, (2,)), strength(net)), ((2, 3), 2))

    def test_weights(self):
        net = ("net", ("a", "b"), ((0, 1, 7), (1, 0, -7), (0, 1, 9)))
        self.assertEqual((firmness(net, (1, 1, 1)), firmness(net, (1, 1, 2)), broken_side(net, (1, 1, 2), 1)),
                         (1, 0, (1,)))
        self.assertEqual(twin_of(net, (1, 5, 2), (1,), 1), ("net", ("a", "b"), ((0, 1, 0), (1, 0, -1), (0, 1, 0))))

    def test_tree(self):
        tree = cut_tree(("net", ("a", "b", "c"), ((0, 1, 7), (0, 1, 5), (1, 2, 3), (2, 0, 1))))
        self.assertEqual((least_size(tree, 0, 1), least_size(tree, 1, 2), tree[0]), (3, 2, (0, 3)))

    def test_worlds(self):
        net = ("net", ("a", "b"), ((0, 1, 7), (1, 0, -7), (0, 1, 9)))
        self.assertEqual((is_safe(net, 1), most_lies(net), worlds(net, 1), verdicts(net, 1)),
                         (True, 1, ((0, 7),), ("kept", "kept", "lies")))

    def test_classes_and_least_cuts(self):
        net = ("net", ("a", "b", "c"), ((0, 1, 7), (1, 2, 3), (2, 0, -9)))
        self.assertEqual((classes(net, 2), classes(net, 3), is_sure(net, 0, 0, 1), least_cuts(net), weak_readings(net)),
                         (((0, 1, 2),), ((0,), (1,), (2,)), True, ((1,), (2,), (1, 2)), (0, 1, 2)))

    def test_profile(self):
        net = ("net", ("a", "b"), ((0, 1, 7), (1, 0, -7), (0, 1, 9)))
        self.assertEqual(profile(net, (0, 7)), "7 b\n  | 7\n0 a\n")

    def test_papertext(self):
        self.assertEqual(shown_paper(("best", (0, 7), (1, 1, 0))), "best\nheights 0 7\nflow 1 1 0\n")

    def test_rings(self):
        net = ("net", ("a", "b", "c"), ((0, 1, 7), (1, 2, 3), (2, 0, -9)))
        self.assertEqual((rings(net), closings(net)), ((((1, 1), (2, 1), (0, 1)),), (1,)))

    def test_near(self):
        net = ("net", ("a", "b"), ((0, 1, 7), (1, 0, -7), (0, 1, 9)))
        self.assertEqual((bound(net, 1, 2), bound(net, 2, 2)), (12, -1))

    def test_trusted(self):
        net = ("net", ("a", "b", "c"), ((0, 1, 7), (1, 2, 3), (2, 0, -9)))
        self.assertEqual((homes(net, (0,)), merged(net, (0,))),
                         (((0, 0, 2), (0, 7, 0)), ("net", ("a", "c"), ((0, 1, 10), (1, 0, -9)))))

    def test_plans(self):
        net = ("net", ("a", "b", "c"), ((0, 1, 7), (1, 2, 3), (2, 0, -9)))
        self.assertEqual((lack(net, 3, (1,)), judge_plan(net, 3, ("plan", ((0, 1), (1, 2)), ((0,), (1,), (2,))))),
                         (1, True))

    def test_desk(self):
        desk = Desk()
        desk.do(("mark", "a"))
        desk.do(("mark", "b"))
        desk.do(("read", "a", "b", 7))
        self.assertEqual((desk.heights(), desk.strength(), desk.numbers(), desk.parts()),
                         ((("a", 0), ("b", 7)), 1, (0,), (("a", "b"),)))

    def test_logs(self):
        self.assertEqual((shown_log((("mark", "a"), ("bound", 2))), mended("mark a\nmark b")),
                         ("mark a\nbound 2\n", ((("mark", "a"),), 7)))

    def test_report(self):
        net = ("net", ("a", "b"), ((0, 1, 7), (1, 0, -7), (0, 1, 9)))
        self.assertEqual(report(net), "a 0\nb 7\na to b 7\nb to a -7\na to b 9 misses 2\ncost 2\nstrength 3\n"
                                      "safe against 1\n")


if __name__ == "__main__":
    unittest.main()
