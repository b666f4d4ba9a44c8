"""What deeds make of the state of a desk.

A state is (marks, readings with their numbers, number of the next reading, bound), and is never changed itself.
"""

from truelevels.nets import MOST_MARKS, MOST_READINGS, is_value
from truelevels.shapes import is_index, is_name, is_row, is_whole

FIRST_STATE = ((), (), 0, 0)
MOST_BOUND = 20


def state_after(state, deed):
    """The state after the deed, or None if it is none, or cannot be done."""
    if is_row(deed, 4) and deed[0] == "read":
        _, start, end, value = deed
        return with_reading(state, start, end, value)
    if not is_row(deed, 2):
        return None
    word, thing = deed
    if word == "mark":
        return with_mark(state, thing)
    if word == "drop":
        return without_reading(state, thing)
    if word == "bound":
        return with_bound(state, thing)
    return None


def with_mark(state, name):
    """The state with a further mark, or None."""
    marks, readings, number, most = state
    if not is_name(name) or name in marks or len(marks) >= MOST_MARKS:
        return None
    return (marks + (name,), readings, number, most)


def with_reading(state, start, end, value):
    """The state with a further reading between two named marks, or None."""
    marks, readings, number, most = state
    if start not in marks or end not in marks or start == end:
        return None
    if not is_whole(value) or not is_value(value) or len(readings) >= MOST_READINGS:
        return None
    reading = (marks.index(start), marks.index(end), value)
    return (marks, readings + ((number, reading),), number + 1, most)


def without_reading(state, number):
    """The state without the reading of this number, or None."""
    marks, readings, following, most = state
    left = tuple(row for row in readings if row[0] != number)
    if not is_whole(number) or len(left) == len(readings):
        return None
    return (marks, left, following, most)


def with_bound(state, most):
    """The state with another bound, or None."""
    marks, readings, number, _ = state
    if not is_index(most, MOST_BOUND + 1):
        return None
    return (marks, readings, number, most)
