"""Nets: marks, and readings of the differences of their heights."""

from truelevels.errors import BadNet
from truelevels.shapes import is_index, is_name, is_row, is_whole

MOST_MARKS = 16
MOST_READINGS = 80
MOST_VALUE = 1000000


def check_net(net):
    """Refuse what is no net, and then a net that is not joined."""
    if not is_net(net):
        raise BadNet(0, "not a net")
    _, marks, readings = net
    if not is_joined(marks, readings):
        raise BadNet(0, "not joined")


def is_net(thing):
    """True for a net, joined or not."""
    if not is_row(thing, 3) or thing[0] != "net":
        return False
    _, marks, readings = thing
    return are_marks(marks) and are_readings(readings, len(marks))


def are_marks(thing):
    """True for a tuple of 1 to 16 names, no two alike."""
    if not isinstance(thing, tuple) or not 1 <= len(thing) <= MOST_MARKS:
        return False
    return all(is_name(name) for name in thing) and len(set(thing)) == len(thing)


def are_readings(thing, many):
    """True for a tuple of at most 80 readings between so many marks."""
    if not isinstance(thing, tuple) or len(thing) > MOST_READINGS:
        return False
    return all(is_reading(reading, many) for reading in thing)


def is_reading(thing, many):
    """True for a reading between two of so many marks."""
    if not is_row(thing, 3):
        return False
    start, end, value = thing
    if not is_index(start, many) or not is_index(end, many) or start == end:
        return False
    return is_whole(value) and is_value(value)


def is_value(number):
    """True for an integer that a reading may have."""
    return -MOST_VALUE <= number <= MOST_VALUE


def is_joined(marks, readings):
    """True if from the first mark one comes to each other one."""
    return len(reached(len(marks), readings, 0)) == len(marks)


def reached(many, readings, start):
    """The indices of the marks to which one comes from start, ascending."""
    near = neighbours(many, readings)
    found = [False] * many
    found[start] = True
    waiting = [start]
    while waiting:
        mark = waiting.pop()
        for _, _, other in near[mark]:
            if not found[other]:
                found[other] = True
                waiting.append(other)
    return tuple(index for index in range(many) if found[index])


def neighbours(many, readings):
    """For each mark the steps from it: index of the reading, way over it (1 or -1), and where one comes to."""
    return neighbours_over(many, readings, tuple(range(len(readings))))


def neighbours_over(many, readings, chosen):
    """For each mark the steps from it over the readings with these indices alone."""
    near = [[] for _ in range(many)]
    for index in chosen:
        start, end, _ = readings[index]
        near[start].append((index, 1, end))
        near[end].append((index, -1, start))
    return near
