"""Asks: which readings to read once more, now without lies, so that the worlds of a net are told apart."""

from truelevels.errors import BadState
from truelevels.worlds import worlds

MOST_WORLDS_TO_ASK_FOR = 12


def asks(net, k):
    """A tree of asks with the least depth that tells the worlds with k lies apart; () if there is no world."""
    found = worlds(net, k)
    if len(found) > MOST_WORLDS_TO_ASK_FOR:
        raise BadState()
    if not found:
        return ()
    return tree_for(tuple(range(len(found))), found, answers_of(net, found), {})


def answers_of(net, found):
    """By their indices, for readings that tell the worlds apart in unlike ways, the answers in all worlds."""
    _, _, readings = net
    answers = {}
    seen = set()
    for index, (start, end, _) in enumerate(readings):
        row = tuple(heights[end] - heights[start] for heights in found)
        parting = tuple(row.index(answer) for answer in row)
        if parting not in seen:
            seen.add(parting)
            answers[index] = row
    return answers


def parts_of(row, group):
    """The pairs of an answer and the worlds of the group that give it, ascending."""
    parts = {}
    for place in group:
        parts.setdefault(row[place], []).append(place)
    return [(answer, tuple(parts[answer])) for answer in sorted(parts)]


def best_ask(group, answers, known):
    """The least depth of a tree for a group of worlds, and the reading that it begins with; known keeps them."""
    if len(group) == 1:
        return (0, -1)
    if group not in known:
        ranks = []
        for index, row in answers.items():
            parts = parts_of(row, group)
            if len(parts) > 1:
                ranks.append((1 + max([best_ask(part, answers, known)[0] for _, part in parts]), index))
        known[group] = min(ranks)
    return known[group]


def tree_for(group, found, answers, known):
    """A tree of the least depth for a group of worlds."""
    if len(group) == 1:
        return ("world", found[group[0]])
    _, index = best_ask(group, answers, known)
    parts = parts_of(answers[index], group)
    return ("ask", index, tuple((answer, tree_for(part, found, answers, known)) for answer, part in parts))


def depth_of(tree):
    """The greatest number of asks on a way of the tree."""
    depth = 0
    level = [tree]
    while level:
        asked = [node for node in level if node[0] == "ask"]
        level = [below for _, _, branches in asked for _, below in branches]
        if asked:
            depth += 1
    return depth


def followed(net, tree, heights):
    """The world to which the answers of the heights lead, () if one of the answers is not there."""
    _, _, readings = net
    while tree[0] == "ask":
        _, index, branches = tree
        start, end, _ = readings[index]
        below = [node for answer, node in branches if answer == heights[end] - heights[start]]
        if not below:
            return ()
        tree = below[0]
    _, world = tree
    return world
