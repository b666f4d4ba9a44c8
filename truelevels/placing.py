"""All heights by which few readings lie, found by placing one mark after another."""


def heights_with_few_lies(net, k, most):
    """The heights by which at most k readings lie, the first so many that are found; k is below the strength.

    A state has heights (None for a mark without a place), the readings that are not settled, the pairs of mark and
    height that are ruled out, and how many of the readings that are not settled can lie.
    """
    _, marks, readings = net
    waiting = [((0,) + (None,) * (len(marks) - 1), readings, (), k)]
    found = []
    while waiting and len(found) < most:
        state = waiting.pop()
        heights, _, _, _ = state
        if None in heights:
            waiting.extend(next_states(state))
        else:
            found.append(heights)
    return found


def next_states(state):
    """The states in which one mark more has a place, or no reading to it from marks with a place is kept."""
    heights, readings, barred, left = state
    told = told_heights(heights, readings)
    choices = choices_left(told, barred, left)
    # The mark with the fewest choices, and of several the one that most readings tell of, keeps the search small.
    _, _, chosen = min([(len(choices[mark]), -sum(told[mark].values()), mark) for mark in told])
    unsettled = tuple(reading for reading in readings if not tells_of(reading, chosen, heights))
    return [state_with(state, chosen, choice, unsettled, told[chosen]) for choice in choices[chosen]]


def told_heights(heights, readings):
    """For each mark without a place, to which there are readings from marks with one, the told heights, counted."""
    told = {}
    for start, end, value in readings:
        if heights[start] is not None and heights[end] is None:
            count_height(told, end, heights[start] + value)
        elif heights[end] is not None and heights[start] is None:
            count_height(told, start, heights[end] - value)
    return told


def count_height(told, mark, height):
    """Count a height that is told of the mark."""
    counts = told.setdefault(mark, {})
    counts[height] = counts.get(height, 0) + 1


def choices_left(told, barred, left):
    """For each mark that is told of, the choices that leave enough lies for the other ones."""
    choices = {mark: choices_of(mark, told[mark], barred) for mark in told}
    fewest = {mark: min([lies for lies, _ in choices[mark]]) for mark in told}
    spare = left - sum(fewest.values())
    return {mark: [choice for choice in choices[mark] if choice[0] <= fewest[mark] + spare] for mark in told}


def choices_of(mark, counts, barred):
    """The pairs of the number of lies and the height that the mark can get, None for a height that none tells."""
    total = sum(counts.values())
    choices = [(total, None)]
    for height, count in counts.items():
        if (mark, height) not in barred:
            choices.append((total - count, height))
    return choices


def tells_of(reading, mark, heights):
    """True for a reading between the mark and one that has a place."""
    start, end, _ = reading
    return (start == mark and heights[end] is not None) or (end == mark and heights[start] is not None)


def state_with(state, mark, choice, unsettled, counts):
    """The state after this choice for the mark."""
    heights, _, barred, left = state
    lies, height = choice
    if height is None:
        # Each world is found just once, as none of these heights is tried again.
        return (heights, unsettled, barred + tuple((mark, told) for told in counts), left - lies)
    return (heights[:mark] + (height,) + heights[mark + 1:], unsettled, barred, left - lies)
