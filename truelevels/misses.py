"""How far readings are off by heights, and which of them lie."""


def miss_of(reading, heights):
    """What the reading tells above the difference of the heights."""
    start, end, value = reading
    return value - heights[end] + heights[start]


def misses(net, heights):
    """The misses of all readings, in order."""
    _, _, readings = net
    return tuple(miss_of(reading, heights) for reading in readings)


def cost(net, heights):
    """The sum of the sizes of all misses."""
    return sum(abs(miss) for miss in misses(net, heights))


def lies(net, heights):
    """The indices of the readings that are not kept, ascending."""
    return tuple(index for index, miss in enumerate(misses(net, heights)) if miss != 0)
