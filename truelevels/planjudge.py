"""Whether a plan of further readings holds. The judge adds up what the plan tells, and seeks nothing itself."""

from truelevels.cuts import strength
from truelevels.more import lack
from truelevels.shapes import are_indices, is_row


def judge_plan(net, t, plan):
    """True if plan is a plan for a strength of t that holds."""
    _, marks, _ = net
    many = len(marks)
    if not is_row(plan, 3) or plan[0] != "plan":
        return False
    _, pairs, parting = plan
    if not are_pairs(pairs, many) or not is_parting(parting, many):
        return False
    # A pair takes at most 1 from the lacks of two sets, so no fewer pairs can do.
    if 2 * len(pairs) - sum(lack(net, t, told) for told in parting) not in (0, 1):
        return False
    return many == 1 or strength(with_pairs(net, pairs)) >= t


def are_pairs(thing, many):
    """True for a tuple of pairs of marks, the lesser one first, in order; pairs may be alike."""
    if not isinstance(thing, tuple) or not all(is_pair(pair, many) for pair in thing):
        return False
    return all(before <= pair for before, pair in zip(thing, thing[1:]))


def is_pair(thing, many):
    """True for two of so many marks, the lesser one first."""
    return is_row(thing, 2) and are_indices(thing, many)


def is_parting(thing, many):
    """True for a tuple of sets of marks without common ones, none of them empty, none of all marks."""
    if not isinstance(thing, tuple) or not all(is_part(part, many) for part in thing):
        return False
    inside = [mark for part in thing for mark in part]
    return len(set(inside)) == len(inside)


def is_part(thing, many):
    """True for a tuple of marks, ascending, not empty and not of all of them."""
    return are_indices(thing, many) and 0 < len(thing) < many


def with_pairs(net, pairs):
    """The net with a further reading for each pair."""
    word, marks, readings = net
    return (word, marks, readings + tuple((one, other, 0) for one, other in pairs))
