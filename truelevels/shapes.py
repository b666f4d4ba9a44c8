"""Whether a thing has the shape that a net, or something told of a net, must have."""

MOST_LETTERS = 8


def is_whole(thing):
    """True for an integer; True and False are none here."""
    return isinstance(thing, int) and not isinstance(thing, bool)


def is_index(thing, many):
    """True for an integer that counts one of many things from 0."""
    return is_whole(thing) and 0 <= thing < many


def is_row(thing, many):
    """True for a tuple with just so many parts."""
    return isinstance(thing, tuple) and len(thing) == many


def is_name(thing):
    """True for a text of 1 to 8 letters from a to z."""
    if not isinstance(thing, str) or not 1 <= len(thing) <= MOST_LETTERS:
        return False
    return all("a" <= letter <= "z" for letter in thing)


def are_heights(net, thing):
    """True for a tuple with an integer for each mark, the first one 0."""
    _, marks, _ = net
    if not is_row(thing, len(marks)):
        return False
    return all(is_whole(height) for height in thing) and thing[0] == 0


def are_indices(thing, many):
    """True for a tuple of integers, each of which counts one of many things from 0, ascending."""
    if not isinstance(thing, tuple) or not all(is_index(index, many) for index in thing):
        return False
    return all(before < index for before, index in zip(thing, thing[1:]))


def is_within(few, many):
    """True if each of the few is one of the many."""
    return all(one in many for one in few)


def is_side(net, thing):
    """True for indices of marks, ascending, at least one, without the first mark."""
    _, marks, _ = net
    return are_indices(thing, len(marks)) and len(thing) > 0 and thing[0] > 0
