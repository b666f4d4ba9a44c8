"""Nets of which some readings are taken as true."""

from itertools import combinations

from truelevels.adjust import best_paper
from truelevels.cuts import all_sides, cut_of
from truelevels.errors import BadNet
from truelevels.forests import trees_over
from truelevels.misses import miss_of
from truelevels.worlds import is_safe

MOST_READINGS_TO_CHOOSE_FROM = 12


def homes(net, trusted):
    """The homes of all marks, and their offsets; trusted readings that do not agree are refused."""
    _, marks, readings = net
    firsts, rises, _ = trees_over(len(marks), readings, trusted)
    if any(miss_of(readings[index], rises) != 0 for index in trusted):
        raise BadNet(0, "not trusted")
    return (tuple(firsts), tuple(rises))


def merged(net, trusted):
    """The net with the homes as its marks, and with the readings between unlike ones."""
    word, marks, readings = net
    firsts, offsets = homes(net, trusted)
    order = sorted(set(firsts))
    rows = []
    for reading in readings:
        start, end, _ = reading
        if firsts[start] != firsts[end]:
            rows.append((order.index(firsts[start]), order.index(firsts[end]), miss_of(reading, offsets)))
    return (word, tuple(marks[first] for first in order), tuple(rows))


def heights_of(net, trusted, heights):
    """The heights of the net for heights of the merged one."""
    firsts, offsets = homes(net, trusted)
    order = sorted(set(firsts))
    return tuple(heights[order.index(first)] + offset for first, offset in zip(firsts, offsets))


def trusted_best(net, trusted):
    """Heights that keep the trusted readings, with the least cost of all such heights."""
    _, heights, _ = best_paper(merged(net, trusted))
    return heights_of(net, trusted, heights)


def sure_lies(net, trusted):
    """The indices of the readings within a home that do not agree with the offsets, ascending."""
    _, _, readings = net
    firsts, offsets = homes(net, trusted)
    found = []
    for index, reading in enumerate(readings):
        start, end, _ = reading
        if firsts[start] == firsts[end] and miss_of(reading, offsets) != 0:
            found.append(index)
    return tuple(found)


def is_safe_with(net, trusted, k):
    """True if the net is safe against k lies besides the trusted readings."""
    return is_safe(merged(net, trusted), k)


def fewest_trusted(net, k):
    """The fewest readings, the first such ones, with which the net is safe against k lies besides them."""
    _, _, readings = net
    many = len(readings)
    if many > MOST_READINGS_TO_CHOOSE_FROM:
        raise BadNet(0, "too great")
    weak = weak_cuts(net, 2 * k)
    for size in range(many):
        for chosen in combinations(range(many), size):
            if meets_all(chosen, weak):
                return chosen
    return tuple(range(many))


def weak_cuts(net, most):
    """The cuts with at most so many readings, the least ones first."""
    _, marks, _ = net
    cuts = [cut_of(net, side) for side in all_sides(len(marks))]
    ranks = sorted([(len(cut), cut) for cut in cuts if len(cut) <= most])
    return [cut for _, cut in ranks]


def meets_all(chosen, cuts):
    """True if each cut has a chosen reading: just these cuts are none of the merged net."""
    return all(meets(chosen, cut) for cut in cuts)


def meets(chosen, cut):
    """True if a chosen reading is in the cut."""
    return any(index in chosen for index in cut)
