"""Heights with the least cost, with a flow that proves it."""

from truelevels.flows import arcs_of, greatest_flow, least_heights


def best_paper(net):
    """A paper of best heights that holds."""
    _, _, readings = net
    heights, flow = proved_heights(net, (1,) * len(readings))
    return ("best", heights, flow)


def proved_heights(net, weights):
    """Heights that are best by weights, and an even weighted flow that is worth their cost."""
    _, marks, readings = net
    many = len(marks)
    flow = greatest_flow(many, readings, weights)
    return least_heights(many, arcs_of(readings, weights, flow)), flow
