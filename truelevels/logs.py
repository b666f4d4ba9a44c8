"""The texts of logs, and desks that are made from logs."""

from truelevels.desk import Desk
from truelevels.errors import BadEntry
from truelevels.text import MOST_DIGITS, is_number


def shown_log(log):
    """The text of a log."""
    return "".join([entry_line(entry) + "\n" for entry in log])


def entry_line(entry):
    """The line of an entry."""
    return " ".join([str(part) for part in entry])


def replay(log):
    """The desk of a log; the first entry that cannot be done is refused."""
    desk = Desk()
    for entry in log:
        desk.do(entry)
    return desk


def read_log(text):
    """The log of a whole text; the first line that is none, or cannot be done, is refused."""
    log, length = mended(text)
    if length < len(text):
        raise BadEntry(len(log))
    return log


def mended(text):
    """The log of the longest beginning of the text that is the text of a log, and its length."""
    desk = Desk()
    length = 0
    # What stands behind the last newline is no whole line.
    for line in text.split("\n")[:-1]:
        try:
            desk.do(deed_of(line))
        except BadEntry:
            break
        length += len(line) + 1
    return (desk.log(), length)


def deed_of(line):
    """The deed of a line of a log; a line that is none gives what is no deed."""
    # Two spaces have an empty word between them, which is neither a name nor a number.
    words = line.split(" ")
    if words[0] == "mark":
        return tuple(words)
    if not is_number(words[-1], MOST_DIGITS):
        return ()
    return (*words[:-1], int(words[-1]))
