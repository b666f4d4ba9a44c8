"""Further readings: the fewest that make a net strong, with a parting that proves that fewer do not."""

from truelevels.cuts import cut_of
from truelevels.shapes import is_within
from truelevels.stars import least_around, star_of, with_more, with_paired


def lack(net, t, marks):
    """How many readings the cut of a set of marks lacks for a strength of t."""
    return max(0, t - len(cut_of(net, marks)))


def plan_of(net, t):
    """A plan for a strength of t that holds.

    A hub with rays to the marks stands for the ends of further readings. As few rays as do are left, and then each
    two of them are put together to one reading, so that no cut becomes too small.
    """
    counts, full = thinned(star_of(net, t), t)
    hub = len(counts) - 1
    if sum(counts[hub]) % 2 == 1:
        counts = with_more(counts, 0, hub, 1)
    return ("plan", paired(counts, t), parting_of(full))


def thinned(counts, t):
    """The counts without the rays that no cut needs, and for each mark with rays a full set that has it.

    A set of marks is full if its cut has just t readings and rays. It stays full when other rays are taken away.
    """
    hub = len(counts) - 1
    full = []
    for mark in range(hub):
        rays = counts[mark][hub]
        size, side = least_around(counts, (mark,), t + rays)
        counts = with_more(counts, mark, hub, t - size)
        if size < t + rays:
            full.append(side)
    return counts, full


def parting_of(full):
    """The full sets that are within no other one.

    Two full sets with a common mark, neither within the other, would both stay full without their common marks; as
    each is the least one that has its mark, there are no such two, and these sets are a parting that has all rays.
    """
    sides = sorted(set(full))
    return tuple(side for side in sides if not is_within_another(side, sides))


def is_within_another(side, sides):
    """True if all marks of the side are in another one."""
    return any(is_within(side, other) for other in sides if other != side)


def paired(counts, t):
    """The pairs of marks that get a further reading, ascending."""
    hub = len(counts) - 1
    pairs = []
    for one in range(hub):
        for other in range(one + 1, hub):
            most = min(counts[one][hub], counts[other][hub])
            if most > 0:
                # Each reading takes both of its rays from the cuts with both marks on one side.
                size, _ = least_around(counts, (one, other), t + 2 * most)
                many = (size - t) // 2
                counts = with_paired(counts, one, other, many)
                pairs.extend([(one, other)] * many)
    return tuple(pairs)
