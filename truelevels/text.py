"""The text of a net, written and read."""

from truelevels.errors import BadNet
from truelevels.nets import MOST_MARKS, MOST_READINGS, is_joined, is_value
from truelevels.shapes import is_name

MOST_SIGNS = 10000
MOST_DIGITS = 7
PERCENT_SIGN = 37


def shown(net):
    """The text of a net."""
    _, marks, readings = net
    lines = [" ".join(["marks", *marks])]
    for start, end, value in readings:
        lines.append(f"{marks[start]} to {marks[end]} is {value}")
    return "".join([line + "\n" for line in lines])


def parse(text):
    """The net of a text; the first line with a fault is refused."""
    if not is_allowed(text):
        raise BadNet(1, "text not allowed")
    marks = ()
    readings = []
    for number, line in enumerate(text.split("\n"), start=1):
        words = words_of(line)
        if words and not marks:
            marks = marks_of(words, number)
        elif words:
            readings.append(reading_of(words, marks, len(readings), number))
    if not marks:
        raise BadNet(text.count("\n") + 1, "marks expected")
    if not is_joined(marks, readings):
        raise BadNet(0, "not joined")
    return ("net", marks, tuple(readings))


def is_allowed(text):
    """True for a text that is short enough and has allowed characters alone."""
    return len(text) <= MOST_SIGNS and all(is_allowed_sign(sign) for sign in text)


def is_allowed_sign(sign):
    """True for a newline and what stands from the space to ~, but for the percent sign."""
    return sign == "\n" or (" " <= sign <= "~" and ord(sign) != PERCENT_SIGN)


def words_of(line):
    """The words of a line ahead of its comment."""
    words = []
    for word in line.split():
        if word.startswith("#"):
            break
        words.append(word)
    return words


def marks_of(words, number):
    """The marks of the first line with words."""
    fault = fault_of_marks(words)
    if fault:
        raise BadNet(number, fault)
    return tuple(words[1:])


def fault_of_marks(words):
    """The first reason against the first line with words, or an empty text."""
    names = words[1:]
    if words[0] != "marks" or not names:
        return "marks expected"
    if not all(is_name(name) for name in names):
        return "not a name"
    if len(set(names)) < len(names):
        return "name twice"
    if len(names) > MOST_MARKS:
        return "too many"
    return ""


def reading_of(words, marks, many, number):
    """The reading of a line that comes behind so many other readings."""
    fault = fault_of_reading(words, marks, many)
    if fault:
        raise BadNet(number, fault)
    return (marks.index(words[0]), marks.index(words[2]), int(words[4]))


def fault_of_reading(words, marks, many):
    """The first reason against the line of a reading, or an empty text."""
    if len(words) != 5 or words[1] != "to" or words[3] != "is":
        return "unknown line"
    start, _, end, _, value = words
    if start not in marks or end not in marks:
        return "unknown mark"
    if start == end:
        return "same mark"
    if not is_number(value, MOST_DIGITS):
        return "not a number"
    if not is_value(int(value)):
        return "out of range"
    if many >= MOST_READINGS:
        return "too many"
    return ""


def is_number(word, most):
    """True for 0, or digits, at most so many, without zeros ahead, perhaps behind a minus sign."""
    if word == "0":
        return True
    digits = word[1:] if word.startswith("-") else word
    if not 1 <= len(digits) <= most or digits.startswith("0"):
        return False
    return all("0" <= sign <= "9" for sign in digits)
