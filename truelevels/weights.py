"""Nets whose readings have weights, and how many lies they stand."""

from truelevels.adjust import proved_heights
from truelevels.cuts import cut_of, sides_looked_at
from truelevels.errors import BadNet
from truelevels.judge import has_proof, worth
from truelevels.misses import misses
from truelevels.shapes import is_row, is_whole

MOST_WEIGHT = 100


def check_weights(net, weights):
    """Refuse what are no weights of the net."""
    _, _, readings = net
    if not is_row(weights, len(readings)) or not all(is_weight(weight) for weight in weights):
        raise BadNet(0, "not weights")


def is_weight(thing):
    """True for an integer from 1 to 100."""
    return is_whole(thing) and 1 <= thing <= MOST_WEIGHT


def weighted_cost(net, weights, heights):
    """The sum of weight times the size of the miss."""
    return sum(weight * abs(miss) for weight, miss in zip(weights, misses(net, heights)))


def weighted_paper(net, weights):
    """A paper of heights that are best by weights, that holds."""
    heights, flow = proved_heights(net, weights)
    return ("weighted", heights, flow)


def judge_weighted(net, weights, paper):
    """True if paper is a paper of heights that are best by weights, that holds."""
    if not has_proof(net, weights, paper, "weighted"):
        return False
    _, heights, flow = paper
    return weighted_cost(net, weights, heights) == worth(net, flow)


def broken_side(net, weights, k):
    """A side that is broken for k, or () if the net is firm against k."""
    for side in sides_looked_at(net):
        if least_breaking(net, weights, side) <= k:
            return side
    return ()


def firmness(net, weights):
    """The greatest k, at most the number of readings, against which the net is firm."""
    _, _, readings = net
    breaking = [least_breaking(net, weights, side) for side in sides_looked_at(net)]
    return min(breaking + [len(readings) + 1]) - 1


def least_breaking(net, weights, side):
    """The least k for which the side is broken."""
    sizes = sorted([weights[index] for index in cut_of(net, side)], reverse=True)
    total = sum(sizes)
    heavy = 0
    many = 0
    while 2 * heavy < total:
        heavy += sizes[many]
        many += 1
    return many


def heavy_readings(net, weights, side, k):
    """The indices of the k heaviest readings of the cut, of equal ones the lesser index ahead."""
    ranks = sorted([(-weights[index], index) for index in cut_of(net, side)])
    return [index for _, index in ranks[:k]]


def twin_of(net, weights, side, k):
    """The net with other values, by which a side that is broken for k is seen to be so."""
    word, marks, readings = net
    heavy = heavy_readings(net, weights, side, k)
    changed = []
    for index, (start, end, _) in enumerate(readings):
        value = 0
        if index in heavy:
            value = 1 if end in side else -1
        changed.append((start, end, value))
    return (word, marks, tuple(changed))
