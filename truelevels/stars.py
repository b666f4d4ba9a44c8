"""Nets with a star: one place more, the hub, from which rays go to the marks.

Counts tell, for each two places, how many readings or rays are between them; the hub is the last place.
"""


def star_of(net, rays):
    """The counts of a net with a hub from which so many rays go to each mark."""
    _, marks, readings = net
    hub = len(marks)
    counts = [[0] * hub + [rays] for _ in marks]
    counts.append([rays] * hub + [0])
    for start, end, _ in readings:
        counts[start][end] += 1
        counts[end][start] += 1
    return counts


def with_more(counts, one, other, more):
    """The counts with so many more between two places."""
    changed = [list(row) for row in counts]
    changed[one][other] += more
    changed[other][one] += more
    return changed


def with_paired(counts, one, other, many):
    """The counts after so many rays of each of two marks were put together, each two of them to one reading."""
    hub = len(counts) - 1
    changed = with_more(counts, one, other, many)
    changed = with_more(changed, one, hub, -many)
    return with_more(changed, other, hub, -many)


def least_around(counts, marks, most):
    """The least size of a cut with these marks on the one side, the hub and some other mark on the other one.

    With it the marks on the one side; but if no such cut has less than most, most and nothing.
    """
    hub = len(counts) - 1
    size = most
    side = ()
    for other in range(hub):
        if other not in marks:
            flow, found = greatest_to(counts, marks, (other, hub), size)
            if flow < size:
                size = flow
                side = found
    return size, side


def greatest_to(counts, starts, ends, most):
    """How much goes from the starts to the ends, and the places still reached then; most and nothing if it is most."""
    left = counts
    total = 0
    while total < most:
        before = reached_over(left, starts)
        found = [end for end in ends if before[end] is not None]
        if not found:
            return total, tuple(place for place in range(len(left)) if before[place] is not None)
        steps = steps_to(before, found[0])
        amount = min([left[one][other] for one, other in steps])
        left = room_behind(left, steps, amount)
        total += amount
    return most, ()


def reached_over(left, starts):
    """For each place to which more can go from the starts the one before it, a start itself for a start, else None."""
    before = [None] * len(left)
    for start in starts:
        before[start] = start
    waiting = list(starts)
    while waiting:
        place = waiting.pop(0)
        for other, room in enumerate(left[place]):
            if room > 0 and before[other] is None:
                before[other] = place
                waiting.append(other)
    return before


def steps_to(before, end):
    """The pairs of places on the way to the end, the last pair first."""
    steps = []
    place = end
    while before[place] != place:
        steps.append((before[place], place))
        place = before[place]
    return steps


def room_behind(left, steps, amount):
    """The room that is left behind so much over the steps."""
    changed = [list(row) for row in left]
    for one, other in steps:
        changed[one][other] -= amount
        changed[other][one] += amount
    return changed
