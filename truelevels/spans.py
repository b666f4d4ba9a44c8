"""How far best heights of a mark reach."""

from truelevels.flows import arcs_of, greatest_flow, greatest_heights, least_heights


def spans(net):
    """For each mark the pair of its least and its greatest height among all best heights."""
    _, marks, readings = net
    many = len(marks)
    weights = (1,) * len(readings)
    arcs = arcs_of(readings, weights, greatest_flow(many, readings, weights))
    return tuple(zip(least_heights(many, arcs), greatest_heights(many, arcs)))


def is_one(net):
    """True if there is just one tuple of best heights."""
    return all(least == greatest for least, greatest in spans(net))
