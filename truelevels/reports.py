"""Reports: what a net tells, line by line."""

from truelevels.adjust import best_paper
from truelevels.cuts import strength
from truelevels.misses import cost, misses
from truelevels.spans import spans
from truelevels.worlds import most_lies


def report(net):
    """The lines of the marks, of the readings, and of what is sure."""
    _, heights, _ = best_paper(net)
    lines = [*mark_lines(net, heights), *reading_lines(net, heights), f"cost {cost(net, heights)}", *sure_lines(net)]
    return "".join([line + "\n" for line in lines])


def mark_lines(net, heights):
    """For each mark its height, and its span if that is not one height."""
    _, marks, _ = net
    lines = []
    for name, height, (least, greatest) in zip(marks, heights, spans(net)):
        if least == greatest:
            lines.append(f"{name} {height}")
        else:
            lines.append(f"{name} {height} {least} to {greatest}")
    return lines


def reading_lines(net, heights):
    """For each reading what it tells, and its miss if it is not kept."""
    _, marks, readings = net
    lines = []
    for (start, end, value), miss in zip(readings, misses(net, heights)):
        line = f"{marks[start]} to {marks[end]} {value}"
        if miss == 0:
            lines.append(line)
        else:
            lines.append(f"{line} misses {miss}")
    return lines


def sure_lines(net):
    """The strength, and how many lies the net is safe against."""
    _, marks, _ = net
    if len(marks) == 1:
        return ["strength none", "safe against all"]
    return [f"strength {strength(net)}", f"safe against {most_lies(net)}"]
