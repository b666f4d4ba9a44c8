"""A desk, which keeps a net while readings come and go."""

from truelevels.adjust import best_paper
from truelevels.cuts import strength
from truelevels.deeds import FIRST_STATE, state_after
from truelevels.errors import BadEntry, BadState
from truelevels.forests import trees_over
from truelevels.nets import is_joined
from truelevels.spans import spans
from truelevels.worlds import is_safe, verdicts

MOST_ENTRIES = 1000


class Desk:
    """Marks, readings with numbers, a bound of lies, and the log of the deeds that made them."""

    def __init__(self):
        self._entries = []
        # The states ahead of each entry, and behind the last one: undoing goes back to the one before.
        self._states = [FIRST_STATE]

    def do(self, deed):
        """Do a deed; what is none, or cannot be done, is refused."""
        after = state_after(self._states[-1], deed)
        if after is None or len(self._entries) >= MOST_ENTRIES:
            raise BadEntry(len(self._entries))
        self._entries.append(deed)
        self._states.append(after)

    def undo(self):
        """Take the last entry back."""
        if not self._entries:
            raise BadState()
        self._entries.pop()
        self._states.pop()

    def log(self):
        """The entries."""
        return tuple(self._entries)

    def net(self):
        """The net as it is, joined or not."""
        marks, readings, _, _ = self._states[-1]
        if not marks:
            raise BadState()
        return ("net", marks, tuple(reading for _, reading in readings))

    def numbers(self):
        """The numbers of the readings."""
        _, readings, _, _ = self._states[-1]
        return tuple(number for number, _ in readings)

    def bound(self):
        """How many lies are reckoned with."""
        _, _, _, most = self._states[-1]
        return most

    def parts(self):
        """The sets of marks that are joined, by names."""
        marks, readings, _, _ = self._states[-1]
        rows = [reading for _, reading in readings]
        firsts, _, _ = trees_over(len(marks), rows, tuple(range(len(rows))))
        return tuple(names_of(marks, firsts, first) for first in sorted(set(firsts)))

    def heights(self):
        """The pairs of a name and a best height."""
        net = self._joined_net()
        _, marks, _ = net
        _, heights, _ = best_paper(net)
        return tuple(zip(marks, heights))

    def spans(self):
        """The triples of a name, the least and the greatest best height."""
        net = self._joined_net()
        _, marks, _ = net
        return tuple((name, least, greatest) for name, (least, greatest) in zip(marks, spans(net)))

    def strength(self):
        """The strength of the net."""
        return strength(self._joined_net())

    def is_safe(self):
        """True if the net is safe against as many lies as are reckoned with."""
        return is_safe(self._joined_net(), self.bound())

    def verdicts(self):
        """The pairs of the number of a reading and what all worlds say of it; () without worlds."""
        return tuple(zip(self.numbers(), verdicts(self._joined_net(), self.bound())))

    def _joined_net(self):
        """The net, if it is joined."""
        net = self.net()
        _, marks, readings = net
        if not is_joined(marks, readings):
            raise BadState()
        return net


def names_of(marks, firsts, first):
    """The names of the marks of the part that begins with this mark."""
    return tuple(name for name, home in zip(marks, firsts) if home == first)
