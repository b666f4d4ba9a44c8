"""Whether things that are handed in with a net are heights, sides, or indices of readings of it."""

from truelevels.errors import BadNet
from truelevels.shapes import are_heights, are_indices, is_side

MOST_HEIGHT = 100000000


def check_heights(net, thing):
    """Refuse what are no heights of the net, and heights that are too great either way."""
    if not are_heights(net, thing) or any(abs(height) > MOST_HEIGHT for height in thing):
        raise BadNet(0, "not heights")


def check_side(net, thing):
    """Refuse what is no side of the net."""
    if not is_side(net, thing):
        raise BadNet(0, "not a side")


def check_indices(net, thing):
    """Refuse what is no tuple of indices of readings, ascending."""
    _, _, readings = net
    if not are_indices(thing, len(readings)):
        raise BadNet(0, "not readings")
