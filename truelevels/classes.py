"""Sure differences: which marks hang together though some readings lie."""

from truelevels.cuts import least_cut
from truelevels.tree import cut_tree, least_size


def classes(net, t):
    """The greatest sets of marks any two of which are joined in t ways, by their first marks."""
    _, marks, _ = net
    tree = cut_tree(net)
    rows = []
    for mark in range(len(marks)):
        # To be joined in t ways to one mark of a class is to be joined so to all of them.
        homes = [row for row in rows if least_size(tree, row[0], mark) >= t]
        if homes:
            homes[0].append(mark)
        else:
            rows.append([mark])
    return tuple(tuple(row) for row in rows)


def is_sure(net, k, one, other):
    """True if the difference of two unlike marks is sure against k lies."""
    return sure_against(net, one, other) >= k


def sure_against(net, one, other):
    """The greatest k against which the difference of two unlike marks is sure."""
    _, ways = least_cut(net, one, other)
    return (len(ways) - 1) // 2


def sure_heights(net, k, heights):
    """For each class whose differences are sure against k, the marks with their heights above the first one."""
    return tuple(above_first(row, heights) for row in classes(net, 2 * k + 1))


def above_first(row, heights):
    """The pairs of each mark of the row and its height less that of the first one."""
    return tuple((mark, heights[mark] - heights[row[0]]) for mark in row)
