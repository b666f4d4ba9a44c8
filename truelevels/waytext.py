"""Texts that tell how sure differences of heights are."""

from truelevels.classes import sure_against, sure_heights
from truelevels.cuts import cut_of, least_cut


def ways_text(net, one, other):
    """The ways between two unlike marks that share no reading, a least cut, and how sure their difference is."""
    side, ways = least_cut(net, one, other)
    lines = [way_line(net, way, one) for way in ways]
    lines.append(" ".join(["cut"] + [str(index) for index in cut_of(net, side)]))
    lines.append(f"sure against {sure_against(net, one, other)}")
    return "".join([line + "\n" for line in lines])


def way_line(net, way, one):
    """The names of the marks on a way from one, and how far it rises by its readings."""
    _, marks, readings = net
    names = [marks[one]]
    mark = one
    rise = 0
    for index in way:
        start, end, value = readings[index]
        if mark == start:
            mark = end
            rise += value
        else:
            mark = start
            rise -= value
        names.append(marks[mark])
    return " ".join(names) + f" is {rise}"


def sure_text(net, k, heights):
    """A line for each class: its first mark, and its other ones with their heights above that one."""
    _, marks, _ = net
    return "".join([class_line(marks, row) + "\n" for row in sure_heights(net, k, heights)])


def class_line(marks, row):
    """The line of a class, from the pairs of its marks and their heights above the first one."""
    first, _ = row[0]
    words = [marks[first]]
    for mark, height in row[1:]:
        words.append(marks[mark])
        words.append(str(height))
    return " ".join(words)
