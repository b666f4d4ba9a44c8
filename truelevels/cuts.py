"""Cuts of a net, ways that share no reading, and the strength."""

from truelevels.errors import BadNet
from truelevels.nets import neighbours

MOST_MARKS_FOR_SIDES = 12


def cut_of(net, side):
    """The indices of the readings with just one end in the side, ascending."""
    _, marks, readings = net
    inside = [mark in side for mark in range(len(marks))]
    return tuple(index for index, (start, end, _) in enumerate(readings) if inside[start] != inside[end])


def all_sides(many):
    """All sides of a net with so many marks."""
    sides = [()]
    for mark in range(1, many):
        sides = sides + [side + (mark,) for side in sides]
    return sides[1:]


def sides_looked_at(net):
    """All sides of a net that is small enough to look at them."""
    _, marks, _ = net
    if len(marks) > MOST_MARKS_FOR_SIDES:
        raise BadNet(0, "too great")
    return all_sides(len(marks))


def most_parted(many, sides):
    """Of so many marks the first pair, one below other, that the most sides part, and their number; () for one mark."""
    pairs = [(one, other) for one in range(many) for other in range(one + 1, many)]
    if not pairs:
        return ()
    counts = [len([side for side in sides if (one in side) != (other in side)]) for one, other in pairs]
    most = max(counts)
    one, other = pairs[counts.index(most)]
    return (one, other, most)


def least_cut(net, one, other):
    """A side with a least cut that parts the two marks, and as many ways between them that share no reading."""
    _, marks, readings = net
    near = neighbours(len(marks), readings)
    flow = [0] * len(readings)
    steps = open_steps(near, flow, one)
    while steps[other] is not None:
        flow = with_way(flow, steps, one, other)
        steps = open_steps(near, flow, one)
    found = [mark == one or steps[mark] is not None for mark in range(len(marks))]
    # A side is without the first mark; the marks not found have the same cut as the found ones.
    side = tuple(mark for mark in range(len(marks)) if found[mark] != found[0])
    return side, ways_of(near, flow, one, other)


def open_steps(near, flow, start):
    """For each mark that the flow leaves open from start the step to it: index, way and the mark before; else None."""
    steps = [None] * len(near)
    waiting = [start]
    while waiting:
        mark = waiting.pop()
        for index, way, other in near[mark]:
            if other != start and steps[other] is None and flow[index] != way:
                steps[other] = (index, way, mark)
                waiting.append(other)
    return steps


def with_way(flow, steps, one, other):
    """The flow with one more from one to other, over the steps."""
    changed = list(flow)
    mark = other
    while mark != one:
        index, way, mark = steps[mark]
        changed[index] += way
    return changed


def ways_of(near, flow, one, other):
    """The ways of which the flow from one to other is made."""
    leaving = [steps_with(steps, flow) for steps in near]
    ways = []
    while leaving[one]:
        way = []
        mark = one
        while mark != other:
            index, mark = leaving[mark].pop()
            way.append(index)
        ways.append(tuple(way))
    return tuple(ways)


def steps_with(steps, flow):
    """Of the steps from a mark those over which the flow goes, as pairs of index and where one comes to."""
    return [(index, other) for index, way, other in steps if flow[index] == way]


def strength(net):
    """The least size of all cuts, -1 for one mark."""
    _, marks, _ = net
    if len(marks) == 1:
        return -1
    return min(len(least_cut(net, 0, mark)[1]) for mark in range(1, len(marks)))


def strength_paper(net):
    """A paper of strength that holds."""
    _, marks, _ = net
    if len(marks) == 1:
        return ("strength", -1, (), ())
    cuts = [least_cut(net, 0, mark) for mark in range(1, len(marks))]
    size = min(len(ways) for _, ways in cuts)
    weakest = [side for side, ways in cuts if len(ways) == size]
    return ("strength", size, weakest[0], tuple(ways[:size] for _, ways in cuts))
