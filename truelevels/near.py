"""How far off heights can be when all readings are a little off, and some of them by anything."""

from truelevels.cuts import strength
from truelevels.misses import misses


def bound(net, k, r):
    """Within how much of one another the differences of best and true heights lie; -1 if there is no bound."""
    _, marks, readings = net
    if len(marks) == 1:
        return 0
    size = strength(net)
    if size < 2 * k + 1:
        return -1
    return 2 * r * len(readings) // (size - 2 * k)


def is_near(net, k, r, heights):
    """True if at most k readings miss by more than r."""
    return len(missing_by_more(net, heights, r)) <= k


def missing_by_more(net, heights, most):
    """The indices of the readings that miss by more than this in size, ascending."""
    return tuple(index for index, miss in enumerate(misses(net, heights)) if abs(miss) > most)


def far_apart(first, second):
    """Within how much of one another the differences of two heights lie."""
    apart = [there - here for here, there in zip(first, second)]
    return max(apart) - min(apart)


def doubts(net, k, r, heights):
    """The indices of the readings that surely lie if the heights are best, ascending; () if there is no bound."""
    most = bound(net, k, r)
    if most < 0:
        return ()
    return missing_by_more(net, heights, r + most)
