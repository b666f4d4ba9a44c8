"""Rings of readings, and which readings explain that some ring does not close with 0."""

from math import comb

from truelevels.cuts import strength
from truelevels.errors import BadState
from truelevels.forests import trees_over
from truelevels.misses import miss_of
from truelevels.shapes import is_within

MOST_SETS = 20000


def rings(net):
    """For each reading that is not in the tree of the net, the ring of it and readings of the tree."""
    _, marks, readings = net
    indices = tuple(range(len(readings)))
    _, _, steps = trees_over(len(marks), readings, indices)
    used = [step[0] for step in steps if step is not None]
    return tuple(ring_of(readings, steps, index) for index in indices if index not in used)


def ring_of(readings, steps, index):
    """The ring that begins with this reading, gone over its own way, and goes back over readings of a tree."""
    start, end, _ = readings[index]
    up = way_to(steps, end)
    down = way_to(steps, start)
    while up and down and up[0] == down[0]:
        up = up[1:]
        down = down[1:]
    back = [(other, -way) for other, way in up[::-1]]
    return ((index, 1), *back, *down)


def way_to(steps, mark):
    """The pairs of index and way over a tree, from its first mark to this one."""
    pairs = []
    while steps[mark] is not None:
        index, way, mark = steps[mark]
        pairs.append((index, way))
    return pairs[::-1]


def closing(net, ring):
    """What the ring closes with."""
    _, _, readings = net
    return sum(way * readings[index][2] for index, way in ring)


def closings(net):
    """What the rings of the net close with, in order."""
    return tuple(closing(net, ring) for ring in rings(net))


def is_ring(net, ring):
    """True if the pairs of index and way are a ring."""
    _, _, readings = net
    if len(ring) < 2 or has_doubles([index for index, _ in ring]):
        return False
    ends = [ends_of(readings[index], way) for index, way in ring]
    if has_doubles([there for _, there in ends]):
        return False
    return all(before[1] == after[0] for before, after in zip([ends[-1]] + ends, ends))


def has_doubles(numbers):
    """True if two of the numbers are alike."""
    return len(set(numbers)) < len(numbers)


def ends_of(reading, way):
    """The marks from which and to which one goes over a reading."""
    start, end, _ = reading
    if way == 1:
        return (start, end)
    return (end, start)


def are_seen(net, k):
    """True if at most k lies, one at least, are always seen."""
    _, marks, _ = net
    return len(marks) == 1 or strength(net) >= k + 1


def explanations(net, k):
    """The least sets of at most k readings that explain the net, by their lengths and then in order."""
    _, _, readings = net
    many = len(readings)
    if sum(comb(many, size) for size in range(min(k, many) + 1)) > MOST_SETS:
        raise BadState()
    found = []
    level = [()]
    for _ in range(min(k, many) + 1):
        tried = [(chosen, unclosed_ring(net, chosen)) for chosen in level if not holds_one(chosen, found)]
        found.extend([chosen for chosen, ring in tried if not ring])
        # What explains the net has a reading of each ring that does not close with 0, so no other ones are tried.
        level = sorted({tuple(sorted([*chosen, index])) for chosen, ring in tried for index, _ in ring})
    return tuple(found)


def holds_one(chosen, found):
    """True if one of the found sets is within the chosen one."""
    return any(is_within(less, chosen) for less in found)


def unclosed_ring(net, left_out):
    """A ring without these readings that does not close with 0, or () if there is none."""
    _, marks, readings = net
    left = tuple(index for index in range(len(readings)) if index not in left_out)
    _, rises, steps = trees_over(len(marks), readings, left)
    for index in left:
        if miss_of(readings[index], rises) != 0:
            return ring_of(readings, steps, index)
    return ()
