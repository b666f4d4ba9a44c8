"""Profiles: the marks of a net written one above the other."""


def profile(net, heights):
    """A line for each height, the greatest first, and between two of them their difference."""
    _, marks, _ = net
    levels = sorted(set(heights))[::-1]
    width = max([len(str(level)) for level in levels])
    lines = [level_line(marks, heights, levels[0], width)]
    for above, level in zip(levels, levels[1:]):
        lines.append(" " * width + f" | {above - level}")
        lines.append(level_line(marks, heights, level, width))
    return "".join([line + "\n" for line in lines])


def level_line(marks, heights, level, width):
    """The line of a height with the names of its marks."""
    names = [name for name, height in zip(marks, heights) if height == level]
    return " ".join([str(level).rjust(width), *names])
