"""Trees of readings: how marks hang together by some of the readings of a net."""

from truelevels.nets import neighbours_over


def trees_over(many, readings, chosen):
    """For each part that the chosen readings join, a tree of them that begins at the first mark of the part.

    Three lists tell, for each mark, the first mark of its part, the height above that one by the tree, and the step
    by which the mark is found: index of the reading, way over it, and the mark before; None for a first mark.
    """
    firsts = [None] * many
    rises = [0] * many
    steps = [None] * many
    for mark, step in found_in_order(neighbours_over(many, readings, chosen)):
        if step is None:
            firsts[mark] = mark
        else:
            index, way, before = step
            firsts[mark] = firsts[before]
            rises[mark] = rises[before] + way * readings[index][2]
            steps[mark] = step
    return firsts, rises, steps


def found_in_order(near):
    """The pairs of each mark and the step by which it is found, in the order in which they are found."""
    found = [False] * len(near)
    order = []
    for first in range(len(near)):
        waiting = [] if found[first] else [(first, None)]
        found[first] = True
        while waiting:
            mark, step = waiting.pop(0)
            order.append((mark, step))
            for index, way, other in near[mark]:
                if not found[other]:
                    found[other] = True
                    waiting.append((other, (index, way, mark)))
    return order
