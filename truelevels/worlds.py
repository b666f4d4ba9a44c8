"""Worlds: heights by which few readings lie; and against how many lies a net is safe."""

from truelevels.cuts import strength, strength_paper
from truelevels.errors import BadState
from truelevels.misses import lies, misses
from truelevels.placing import heights_with_few_lies
from truelevels.weights import twin_of

MOST_WORLDS = 200


def is_world(net, k, heights):
    """True if at most k readings lie by the heights."""
    return len(lies(net, heights)) <= k


def worlds(net, k):
    """All worlds with k lies, ascending."""
    _, marks, _ = net
    if len(marks) > 1 and strength(net) <= k:
        raise BadState()
    found = heights_with_few_lies(net, k, MOST_WORLDS + 1)
    if len(found) > MOST_WORLDS:
        raise BadState()
    return tuple(sorted(found))


def verdicts(net, k):
    """For each reading whether it is kept in all worlds with k lies, lies in all, or is open; () without worlds."""
    told = [misses(net, heights) for heights in worlds(net, k)]
    return tuple(verdict_of(row) for row in zip(*told))


def verdict_of(row):
    """The word for a reading that misses by these in the worlds."""
    if all(miss == 0 for miss in row):
        return "kept"
    if all(miss != 0 for miss in row):
        return "lies"
    return "open"


def is_safe(net, k):
    """True if the net is safe against k lies."""
    _, marks, _ = net
    return len(marks) == 1 or strength(net) >= 2 * k + 1


def most_lies(net):
    """The greatest k against which the net is safe, -1 for one mark."""
    _, marks, _ = net
    if len(marks) == 1:
        return -1
    return (strength(net) - 1) // 2


def twins(net, k):
    """A side, values by which it can be raised unseen, and the two worlds; () if the net is safe against k."""
    if is_safe(net, k):
        return ()
    _, marks, readings = net
    _, _, side, _ = strength_paper(net)
    # With equal weights the heavy readings of a cut are its first ones.
    twin = twin_of(net, (1,) * len(readings), side, k)
    raised = tuple(1 if mark in side else 0 for mark in range(len(marks)))
    return (side, twin, (0,) * len(marks), raised)
