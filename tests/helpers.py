"""What several tests use: drawn nets, sums made without the program, and things with one place changed."""

import itertools
import random

NAMES = tuple("abcdefghijklmnop")

# One mark, and so neither a reading nor a cut.
LONE = ("net", ("a",), ())
# Three readings between two marks, the last one off by 2.
PAIR = ("net", ("a", "b"), ((0, 1, 7), (1, 0, -7), (0, 1, 9)))
# A triangle with one side read twice, all readings kept by (0, 4, 9).
TRIANGLE = ("net", ("a", "b", "c"), ((0, 1, 4), (1, 0, -4), (1, 2, 5), (2, 0, -9)))
# Four marks in a ring, and one reading across.
RING = ("net", ("a", "b", "c", "d"), ((0, 1, 3), (1, 2, -2), (3, 2, 6), (3, 0, 1), (0, 2, 8)))


def drawn_net(draw, many_marks, many_readings, most):
    """A joined net with so many marks and readings (or more, if it takes more to join them)."""
    readings = []
    for mark in range(1, many_marks):
        ends = [mark, draw.randrange(mark)]
        draw.shuffle(ends)
        readings.append((ends[0], ends[1], draw.randint(-most, most)))
    while many_marks > 1 and len(readings) < many_readings:
        start, end = draw.sample(range(many_marks), 2)
        readings.append((start, end, draw.randint(-most, most)))
    draw.shuffle(readings)
    return ("net", NAMES[:many_marks], tuple(readings))


def small_nets(seed, count, most_marks=4, most_readings=7, most=3):
    """Small joined nets, always the same ones for a seed."""
    draw = random.Random(seed)
    return [drawn_net(draw, draw.randint(1, most_marks), draw.randint(0, most_readings), most) for _ in range(count)]


def edge_nets(seed):
    """Nets at the bounds: 16 marks, 80 readings, values of 1,000,000 either way."""
    draw = random.Random(seed)
    ring = tuple((mark, (mark + 1) % 16, 1000000 * (-1) ** mark) for mark in range(16))
    nets = [("net", NAMES, ring * 5)]
    for _ in range(4):
        nets.append(drawn_net(draw, 16, 80, 1000000))
    wild = [(start, end, draw.choice((-1000000, 1000000))) for start, end, _ in nets[1][2]]
    nets.append(("net", NAMES, tuple(wild)))
    nets.append(("net", ("a", "b"), tuple((n % 2, 1 - n % 2, 1000000 - 7 * n) for n in range(80))))
    nets.append(("net", NAMES, tuple((mark, mark + 1, -1000000) for mark in range(15))))
    return nets


def all_heights(net, reach):
    """All heights of a net none of which is above reach in size."""
    for rest in itertools.product(range(-reach, reach + 1), repeat=len(net[1]) - 1):
        yield (0,) + rest


def all_sides(net):
    """All sides of a net."""
    marks = range(1, len(net[1]))
    for many in range(1, len(net[1])):
        yield from itertools.combinations(marks, many)


def sum_of_misses(net, heights, weights=None):
    """The (weighted) cost of heights."""
    weights = weights or (1,) * len(net[2])
    sizes = [abs(value - heights[end] + heights[start]) for start, end, value in net[2]]
    return sum(weight * size for weight, size in zip(weights, sizes))


def evens_out(net, flow):
    """True if each mark gets as much as it gives."""
    for mark in range(len(net[1])):
        gets = sum(amount for (_, end, _), amount in zip(net[2], flow) if end == mark)
        gives = sum(amount for (start, _, _), amount in zip(net[2], flow) if start == mark)
        if gets != gives:
            return False
    return True


def sum_of_worth(net, flow):
    """The sum of flow times value."""
    return sum(amount * reading[2] for amount, reading in zip(flow, net[2]))


def best_by_search(net, reach):
    """All best heights of a net none of which is above reach in size."""
    costs = [(sum_of_misses(net, heights), heights) for heights in all_heights(net, reach)]
    least = min(costs)[0]
    return [heights for price, heights in costs if price == least]


def is_plain(thing):
    """True for an integer that is no True or False."""
    return type(thing) is int


def paper_is_right(net, paper, word="best", weights=None):
    """True if a paper of best heights, or of best ones by weights, holds by the sums made here."""
    bounds = weights or (1,) * len(net[2])
    if type(paper) is not tuple or len(paper) != 3 or paper[0] != word:
        return False
    _, heights, flow = paper
    if type(heights) is not tuple or len(heights) != len(net[1]) or not all(map(is_plain, heights)):
        return False
    if type(flow) is not tuple or len(flow) != len(net[2]) or not all(map(is_plain, flow)):
        return False
    if heights[0] != 0 or any(abs(amount) > bound for amount, bound in zip(flow, bounds)):
        return False
    return evens_out(net, flow) and sum_of_misses(net, heights, bounds) == sum_of_worth(net, flow)


def cut_by_hand(net, side):
    """The indices of the readings of the cut of a side."""
    return tuple(k for k, (start, end, _) in enumerate(net[2]) if (start in side) + (end in side) == 1)


def least_by_sides(net, one, other):
    """The least size of a cut that parts two marks, by all sides."""
    return min(len(cut_by_hand(net, side)) for side in all_sides(net) if (one in side) != (other in side))


def strength_by_sides(net):
    """The strength, by all sides."""
    return min((len(cut_by_hand(net, side)) for side in all_sides(net)), default=-1)


def pairs_of(net):
    """All pairs of unlike marks, in both orders."""
    return list(itertools.permutations(range(len(net[1])), 2))


def kept_values(net, heights):
    """The net with values that the heights keep."""
    return (net[0], net[1], tuple((start, end, heights[end] - heights[start]) for start, end, _ in net[2]))


def with_lies(draw, net, heights, k, most):
    """The net with values of which just k (or all, if there are not so many) lie by the heights, by at most most."""
    readings = list(kept_values(net, heights)[2])
    for index in draw.sample(range(len(readings)), min(k, len(readings))):
        start, end, value = readings[index]
        readings[index] = (start, end, value + draw.choice((-1, 1)) * draw.randint(1, most))
    return (net[0], net[1], tuple(readings))


def lies_by_hand(net, heights):
    """The indices of the readings that the heights do not keep."""
    return tuple(k for k, (start, end, value) in enumerate(net[2]) if heights[end] - heights[start] != value)


def is_good_side(net, side):
    """True for a tuple that is a side."""
    if type(side) is not tuple or not side or not all(map(is_plain, side)):
        return False
    return list(side) == sorted(set(side)) and side[0] > 0 and side[-1] < len(net[1])


def goes(net, way, one, other):
    """True if way leads from one mark to the other one and uses no reading twice."""
    if type(way) is not tuple or not way or not all(map(is_plain, way)) or len(set(way)) < len(way):
        return False
    for index in way:
        if not 0 <= index < len(net[2]) or one not in net[2][index][:2]:
            return False
        one = sum(net[2][index][:2]) - one
    return one == other


def are_apart(ways):
    """True if no reading is in two of the ways."""
    used = [index for way in ways for index in way]
    return len(set(used)) == len(used)


def rings_of(net):
    """All rings of a small net, by their readings and ways, each once for its first mark and way round."""
    found = []

    def go_on(steps, marks):
        for index, (start, end, _) in enumerate(net[2]):
            if index in [step[0] for step in steps]:
                continue
            for way, here, there in ((1, start, end), (-1, end, start)):
                if here == marks[-1] and there == marks[0] and steps:
                    found.append(tuple(steps + [(index, way)]))
                elif here == marks[-1] and there not in marks:
                    go_on(steps + [(index, way)], marks + [there])

    for mark in range(len(net[1])):
        go_on([], [mark])
    return found


def all_closings(net):
    """What all rings of a net close with."""
    return {ring: sum(way * net[2][index][2] for index, way in ring) for ring in rings_of(net)}


def places(thing):
    """The places of a thing made of tuples: the ways to all of its parts, and to itself."""
    yield ()
    if isinstance(thing, tuple):
        for k, part in enumerate(thing):
            for place in places(part):
                yield (k,) + place


def part_at(thing, place):
    """The part at a place."""
    for k in place:
        thing = thing[k]
    return thing


def with_part(thing, place, part):
    """The thing with another part at a place."""
    if not place:
        return part
    k = place[0]
    return thing[:k] + (with_part(thing[k], place[1:], part),) + thing[k + 1:]


def in_lists(thing):
    """The thing once for each of its tuples, with a list in the place of this tuple."""
    for place in places(thing):
        part = part_at(thing, place)
        if isinstance(part, tuple):
            yield with_part(thing, place, list(part))


def drawn_thing(draw, depth=3):
    """Anything made of tuples, lists, strings, integers, booleans and None."""
    if depth and draw.random() < 0.6:
        parts = [drawn_thing(draw, depth - 1) for _ in range(draw.randrange(5))]
        return tuple(parts) if draw.random() < 0.7 else parts
    return draw.choice(("best", "strength", "weighted", "net", "a", "", None, True, False, 0, 1, -1, 2, 10 ** 30))


def parts_of(thing):
    """The thing and all that it is made of."""
    yield thing
    if isinstance(thing, (tuple, list)):
        for part in thing:
            yield from parts_of(part)


def is_made_of_tuples(thing):
    """True for what is made of tuples and integers alone; True and False are none."""
    return all(type(part) in (tuple, int) for part in parts_of(thing))


def least_of_all_cuts(many, readings):
    """The least size of all cuts of a net with two marks or more, side by side from lesser sides."""
    between = [[0] * many for _ in range(many)]
    for start, end, *_ in readings:
        between[start][end] += 1
        between[end][start] += 1
    sizes = [0]
    for mark in range(1, many):
        inner = [0]
        for other in range(1, mark):
            inner += [count + between[mark][other] for count in inner]
        sizes += [size + sum(between[mark]) - 2 * count for size, count in zip(sizes, inner)]
    return min(sizes[1:])


def lacks_by_hand(net, t, part):
    """The lack of a set of marks."""
    return max(0, t - sum((start in part) != (end in part) for start, end, _ in net[2]))


def plan_is_right(net, t, plan):
    """True if a plan holds, by sums made here."""
    many = len(net[1])
    if type(plan) is not tuple or len(plan) != 3 or type(plan[0]) is not str or plan[0] != "plan":
        return False
    _, pairs, parting = plan
    for rows in (pairs, parting):
        if type(rows) is not tuple or any(type(row) is not tuple or not all(map(is_plain, row)) for row in rows):
            return False
        if any(list(row) != sorted(set(row)) or not set(row) <= set(range(many)) for row in rows):
            return False
    if any(len(pair) != 2 for pair in pairs) or list(pairs) != sorted(pairs):
        return False
    if any(not 0 < len(part) < many for part in parting) or not are_apart(parting):
        return False
    total = sum(lacks_by_hand(net, t, part) for part in parting)
    if 2 * len(pairs) not in (total, total + 1):
        return False
    return many == 1 or least_of_all_cuts(many, net[2] + pairs) >= t


def spans_by_search(net, reach):
    """The spans of a small net, by all of its best heights."""
    best = best_by_search(net, reach)
    return tuple((min(row), max(row)) for row in zip(*best))
