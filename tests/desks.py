"""A plain model of a desk, and what the tests of desks and of logs do with desks."""

from helpers import NAMES
from truelevels.desk import Desk
from truelevels.errors import BadState

MILLION = 1000000
PAIR = (("mark", "a"), ("mark", "b"), ("read", "a", "b", 7), ("read", "b", "a", -7), ("read", "a", "b", 9))


class Model:
    """A plain desk: all that it tells is worked out from its log."""

    def __init__(self):
        self.entries = []

    def marks(self):
        return [entry[1] for entry in self.entries if entry[0] == "mark"]

    def rows(self):
        """The present readings by their numbers."""
        rows = {}
        came = 0
        for entry in self.entries:
            if entry[0] == "read":
                rows[came] = entry[1:]
                came += 1
            elif entry[0] == "drop":
                del rows[entry[1]]
        return rows

    def bound(self):
        return ([0] + [entry[1] for entry in self.entries if entry[0] == "bound"])[-1]

    def can(self, deed):
        """True if a deed of the right shape can be done."""
        if len(self.entries) == 1000:
            return False
        if deed[0] == "mark":
            good = isinstance(deed[1], str) and 1 <= len(deed[1]) <= 8 and set(deed[1]) <= set("abcdefghijklmnopqrstuvwxyz")
            return good and deed[1] not in self.marks() and len(self.marks()) < 16
        if deed[0] == "read":
            known = deed[1] in self.marks() and deed[2] in self.marks() and deed[1] != deed[2]
            return known and -MILLION <= deed[3] <= MILLION and len(self.rows()) < 80
        if deed[0] == "drop":
            return deed[1] in self.rows()
        return 0 <= deed[1] <= 20

    def net(self):
        marks = self.marks()
        rows = [(marks.index(start), marks.index(end), value) for start, end, value in self.rows().values()]
        return ("net", tuple(marks), tuple(rows))

    def parts(self):
        parts = [{name} for name in self.marks()]
        for start, end, _ in self.rows().values():
            one = [part for part in parts if start in part or end in part]
            parts = [part for part in parts if part not in one] + [set().union(*one)]
        rows = [tuple(name for name in self.marks() if name in part) for part in parts]
        return tuple(sorted(rows, key=lambda row: self.marks().index(row[0])))


def desk_of(deeds):
    """A desk at which these deeds were done."""
    desk = Desk()
    for deed in deeds:
        assert desk.do(deed) is None
    return desk


def drawn_deed(draw, model):
    """A deed of the right shape, that perhaps cannot be done."""
    names = model.marks() + [draw.choice(NAMES)]
    kind = draw.random()
    if kind < 0.12:
        return ("mark", draw.choice(NAMES + ("zz", "abcdefgh", "abcdefghi", "", "A", "a b")))
    if kind < 0.72:
        return ("read", draw.choice(names), draw.choice(names), draw.choice((0, 7, -7, MILLION, -MILLION, MILLION + 1)))
    if kind < 0.9:
        return ("drop", draw.choice(list(model.rows()) + [draw.randint(-1, 30)]))
    return ("bound", draw.randint(-2, 22))


def all_told(desk):
    """All that a desk tells, refusals too."""
    told = []
    for method in (desk.net, desk.numbers, desk.bound, desk.parts, desk.log, desk.heights, desk.spans, desk.strength,
                   desk.is_safe, desk.verdicts):
        try:
            told.append(method())
        except BadState:
            told.append("BadState")
    return told
