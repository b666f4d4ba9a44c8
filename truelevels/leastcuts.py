"""All least cuts of a net with few marks."""

from truelevels.cuts import cut_of, most_parted, sides_looked_at


def least_cuts(net):
    """The sides of all least cuts, by the number of their marks and then in order."""
    sides = sides_looked_at(net)
    sizes = [len(cut_of(net, side)) for side in sides]
    least = min(sizes, default=0)
    ranks = sorted([(len(side), side) for side, size in zip(sides, sizes) if size == least])
    return tuple(side for _, side in ranks)


def weak_readings(net):
    """The indices of the readings that are in a least cut, ascending."""
    return tuple(sorted({index for side in least_cuts(net) for index in cut_of(net, side)}))


def best_pair(net):
    """The first pair of marks that the most least cuts part, and their number; () for one mark."""
    _, marks, _ = net
    return most_parted(len(marks), least_cuts(net))
