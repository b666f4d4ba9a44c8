"""The texts of papers of best heights and of heights that are best by weights, written and read."""

from truelevels.errors import BadNet
from truelevels.text import is_number

MOST_DIGITS_IN_PAPERS = 12


def shown_paper(paper):
    """The text of a paper."""
    word, heights, flow = paper
    lines = [word, numbers_line("heights", heights), numbers_line("flow", flow)]
    return "".join([line + "\n" for line in lines])


def numbers_line(word, numbers):
    """The line of a word and the numbers behind it."""
    return " ".join([word] + [str(number) for number in numbers])


def parse_paper(net, text):
    """The paper of a text, for a net; the first fault is refused."""
    lines = text.split("\n")
    if lines[0] not in ("best", "weighted"):
        raise BadNet(1, "unknown line")
    if len(lines) != 4 or lines[3] != "":
        raise BadNet(len(lines), "three lines expected")
    _, marks, readings = net
    heights = parsed_numbers(lines[1], 2, "heights", len(marks))
    flow = parsed_numbers(lines[2], 3, "flow", len(readings))
    return (lines[0], heights, flow)


def parsed_numbers(line, place, word, many):
    """The numbers of the line at this place, so many of them behind the word."""
    # Two spaces have an empty word between them, which is no number.
    words = line.split(" ")
    if words[0] != word:
        raise BadNet(place, f"{word} expected")
    if len(words) != many + 1:
        raise BadNet(place, "wrong number of words")
    if not all(is_number(told, MOST_DIGITS_IN_PAPERS) for told in words[1:]):
        raise BadNet(place, "not a number")
    return tuple(int(told) for told in words[1:])
