"""Whether a paper holds. The judge adds up what the paper tells, and seeks nothing itself."""

from truelevels.cuts import cut_of
from truelevels.misses import cost
from truelevels.shapes import are_heights, is_index, is_row, is_side, is_whole


def judge(net, paper):
    """True if paper is a paper of best heights, or of strength, that holds for the net."""
    return best_holds(net, paper) or strength_holds(net, paper)


def best_holds(net, paper):
    """True for a paper of best heights that holds."""
    _, _, readings = net
    if not has_proof(net, (1,) * len(readings), paper, "best"):
        return False
    _, heights, flow = paper
    return cost(net, heights) == worth(net, flow)


def has_proof(net, weights, paper, word):
    """True if paper is the word, heights, and an even flow that is nowhere beyond its weight."""
    if not is_row(paper, 3) or paper[0] != word:
        return False
    _, heights, flow = paper
    return are_heights(net, heights) and is_flow(weights, flow) and is_even(net, flow)


def is_flow(weights, thing):
    """True for a tuple with an integer for each weight, from minus the weight to the weight."""
    if not is_row(thing, len(weights)):
        return False
    return all(is_whole(amount) and abs(amount) <= weight for amount, weight in zip(thing, weights))


def is_even(net, flow):
    """True if for each mark as much flows to it as from it."""
    _, marks, readings = net
    excess = [0] * len(marks)
    for (start, end, _), amount in zip(readings, flow):
        excess[end] += amount
        excess[start] -= amount
    return all(amount == 0 for amount in excess)


def worth(net, flow):
    """The sum of flow times value."""
    _, _, readings = net
    return sum(amount * value for (_, _, value), amount in zip(readings, flow))


def strength_holds(net, paper):
    """True for a paper of strength that holds."""
    _, marks, _ = net
    if len(marks) == 1:
        return paper == ("strength", -1, (), ())
    if not is_row(paper, 4) or paper[0] != "strength":
        return False
    _, size, side, ways = paper
    if not is_whole(size) or not is_side(net, side) or len(cut_of(net, side)) != size:
        return False
    if not is_row(ways, len(marks) - 1):
        return False
    return all(are_ways(net, mark, size, told) for mark, told in enumerate(ways, start=1))


def are_ways(net, mark, size, thing):
    """True for so many ways from the first mark to this one that share no reading."""
    _, _, readings = net
    if not is_row(thing, size) or not all(isinstance(way, tuple) for way in thing):
        return False
    used = [index for way in thing for index in way]
    if not all(is_index(index, len(readings)) for index in used) or len(set(used)) < len(used):
        return False
    return all(end_of(readings, way) == mark for way in thing)


def end_of(readings, way):
    """The mark to which one comes from the first one over these readings, or -1 if they do not go on so."""
    mark = 0
    for index in way:
        start, end, _ = readings[index]
        if mark == start:
            mark = end
        elif mark == end:
            mark = start
        else:
            return -1
    return mark
