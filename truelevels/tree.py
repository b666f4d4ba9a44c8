"""Trees of cuts: the least sizes of the cuts that part any two marks."""

from truelevels.cuts import least_cut


def cut_tree(net):
    """A tree of cuts: for each mark but the first one the pair of its parent and the least size between the two."""
    _, marks, _ = net
    many = len(marks)
    parents = [0] * many
    sizes = [0] * many
    for mark in range(1, many):
        parent = parents[mark]
        side, ways = least_cut(net, mark, parent)
        sizes[mark] = len(ways)
        for later in range(mark + 1, many):
            # A later mark keeps its parent unless the cut parts the two.
            if parents[later] == parent and (later in side) == (mark in side):
                parents[later] = mark
    return tuple(zip(parents[1:], sizes[1:]))


def least_size(tree, one, other):
    """The least size on the way between two unlike marks."""
    sizes = []
    while one != other:
        # Parents have lesser indices, so the way leads up from the greater one of the two.
        upper = min(one, other)
        parent, size = tree[max(one, other) - 1]
        sizes.append(size)
        one = upper
        other = parent
    return min(sizes)
