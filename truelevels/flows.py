"""Even flows of the greatest worth, by weights, and the heights that they leave."""


def greatest_flow(many, readings, weights):
    """An even flow, none of it beyond its weight, that no other one is above in worth."""
    flow = full_flow(readings, weights)
    for mark in range(many):
        while excesses(many, readings, flow)[mark] > 0:
            flow = sent_on(many, readings, weights, flow, mark)
    return tuple(flow)


def full_flow(readings, weights):
    """The flow of the greatest worth if it need not be even."""
    flow = []
    for (_, _, value), weight in zip(readings, weights):
        if value > 0:
            flow.append(weight)
        elif value < 0:
            flow.append(-weight)
        else:
            flow.append(0)
    return flow


def excesses(many, readings, flow):
    """For each mark what flows to it, less what flows from it."""
    excess = [0] * many
    for (start, end, _), amount in zip(readings, flow):
        excess[end] += amount
        excess[start] -= amount
    return excess


def sent_on(many, readings, weights, flow, start):
    """The flow after some excess of start went to a mark that lacks flow, at the least loss of worth."""
    # Only the cheapest path keeps all circles without a gain, and so the flow the greatest in the end.
    prices, last = cheapest(many, arcs_of(readings, weights, flow), start)
    excess = excesses(many, readings, flow)
    lacking = [mark for mark in range(many) if excess[mark] < 0 and prices[mark] is not None]
    end = min([(prices[mark], mark) for mark in lacking])[1]
    path = path_to(last, start, end)
    rooms = [weights[index] - way * flow[index] for index, way in path]
    amount = min([excess[start], -excess[end]] + rooms)
    changed = list(flow)
    for index, way in path:
        changed[index] += way * amount
    return changed


def arcs_of(readings, weights, flow):
    """The arcs over which more can flow: tail, head, price of one, index and way of the reading.

    The heights that a greatest flow leaves are those by which no tail is above its head by more than the price.
    """
    arcs = []
    for index, (start, end, value) in enumerate(readings):
        if flow[index] < weights[index]:
            arcs.append((start, end, -value, index, 1))
        if flow[index] > -weights[index]:
            arcs.append((end, start, value, index, -1))
    return arcs


def turned(arcs):
    """The same arcs, each from its head to its tail."""
    return [(head, tail, price, index, way) for tail, head, price, index, way in arcs]


def cheapest(many, arcs, start):
    """For each mark the least price of a path from start, and the last arc of this path; None without a path.

    No circle of the arcs may have a price below 0.
    """
    prices = [None] * many
    last = [None] * many
    prices[start] = 0
    changed = True
    while changed:
        changed = False
        for arc in arcs:
            tail, head, price, _, _ = arc
            if prices[tail] is None:
                continue
            total = prices[tail] + price
            if prices[head] is None or total < prices[head]:
                prices[head] = total
                last[head] = arc
                changed = True
    return prices, last


def path_to(last, start, end):
    """The pairs of index and way on the path from start to end, the last one first."""
    path = []
    mark = end
    while mark != start:
        mark, _, _, index, way = last[mark]
        path.append((index, way))
    return path


def least_heights(many, arcs):
    """The least heights that a greatest flow with these arcs leaves."""
    prices, _ = cheapest(many, arcs, 0)
    return tuple(-price for price in prices)


def greatest_heights(many, arcs):
    """The greatest heights that a greatest flow with these arcs leaves."""
    prices, _ = cheapest(many, turned(arcs), 0)
    return tuple(prices)
