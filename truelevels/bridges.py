"""Bridges: readings that are cuts alone, so that no lie of theirs is ever seen."""

from truelevels.cuts import most_parted
from truelevels.nets import is_joined, reached


def bridges(net):
    """The indices of the bridges, ascending."""
    _, marks, readings = net
    return tuple(index for index in range(len(readings)) if not is_joined(marks, all_but(readings, index)))


def all_but(readings, index):
    """The readings without this one."""
    return readings[:index] + readings[index + 1:]


def halves(net, index):
    """For a bridge the marks that hang together with the first one without it, and all others."""
    _, marks, readings = net
    near = reached(len(marks), all_but(readings, index), 0)
    return (near, tuple(mark for mark in range(len(marks)) if mark not in near))


def unseen(net, index, more):
    """The net with more added to the value of a reading."""
    word, marks, readings = net
    start, end, value = readings[index]
    return (word, marks, readings[:index] + ((start, end, value + more),) + readings[index + 1:])


def best_further(net):
    """The first pair of marks between which a further reading leaves the fewest bridges, and these; () for one mark."""
    _, marks, _ = net
    if len(marks) == 1:
        return ()
    # A further reading makes those bridges none whose halves part its ends.
    sides = [halves(net, index)[1] for index in bridges(net)]
    one, other, many = most_parted(len(marks), sides)
    return (one, other, len(sides) - many)
