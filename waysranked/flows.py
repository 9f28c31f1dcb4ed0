"""Flows: several ways at once that share nothing, as the arcs that they go along together, for the least cost.

Each place has a node that roads come in at, its own number, and one that they go out from. The latter is another node
only where the place is to be in one way at most: then an arc leads through it. An arc is (tail, head, cost).
"""


def outs_of(net, start, goal, by):
    """Tell for each place the node that roads go out from, as a list."""
    places = net[0]
    if by == "roads":
        return list(range(places))
    return [place if place in (start, goal) else places + place for place in range(places)]


def arcs_of(net, outs):
    """Tell the arcs, as a list: one for each road, in their order, and behind them those through places."""
    arcs = [(outs[one], other, cost) for one, other, cost, time in net[1]]
    return arcs + [(place, out, 0) for place, out in enumerate(outs) if place != out]


def least_flow(arcs, start, goal, many):
    """Tell of each arc whether it is in the flow of the least cost of so many ways; of fewer where there are no more.

    Told is (ways, taken), how many ways there are and a list with a truth for each arc.
    """
    taken = [False] * len(arcs)
    ways = 0
    # A least flow with a least path of the rest is a least flow of one way more.
    while ways < many and add_path(arcs, taken, start, goal):
        ways += 1
    return ways, taken


def add_path(arcs, taken, start, goal):
    """Take the arcs of a least path, give back those that it goes against; tell whether there is one."""
    reached = least_paths(arcs, taken, start)
    if goal not in reached:
        return False
    node = goal
    while node != start:
        arc = reached[node][1]
        tail, head, cost = arcs[arc]
        node = head if taken[arc] else tail
        taken[arc] = not taken[arc]
    return True


def steps_left(arcs, taken):
    """Tell (tail, head, cost, arc) of each step beside the flow: along what is free, or back along what is taken."""
    steps = []
    for arc, (tail, head, cost) in enumerate(arcs):
        steps.append((head, tail, -cost, arc) if taken[arc] else (tail, head, cost, arc))
    return steps


def least_paths(arcs, taken, start):
    """Tell for each node that steps beside the flow lead to (cost, arc): what it costs at least, and the last arc."""
    steps = steps_left(arcs, taken)
    reached = {start: (0, None)}
    lessened = True
    # Beside a flow of the least cost no steps lead round for less than nothing, so this comes to an end.
    while lessened:
        lessened = False
        for tail, head, cost, arc in steps:
            if tail in reached and (head not in reached or reached[tail][0] + cost < reached[head][0]):
                reached[head] = (reached[tail][0] + cost, arc)
                lessened = True
    return reached


def node_prices(nodes, arcs, taken):
    """Tell a price for each node such that no step beside the flow costs less than what the price falls by."""
    steps = steps_left(arcs, taken)
    prices = [0] * nodes
    lessened = True
    while lessened:
        lessened = False
        for tail, head, cost, arc in steps:
            if prices[tail] > cost + prices[head]:
                prices[tail] = cost + prices[head]
                lessened = True
    return prices
