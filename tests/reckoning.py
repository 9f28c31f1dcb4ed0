"""What the tests reckon themselves, otherwise than the program does."""

import functools


def cost(net, way):
    return sum(net[1][road][2] for road in way)


def rank(net):
    """By what ways rise: their costs, of like costs as tuples compare."""
    return lambda way: (cost(net, way), way)


def ways_on(net, way, place):
    """Each way with one road more, with the place that it comes to."""
    return [((*way, road), net[1][road][1]) for road in range(len(net[1])) if net[1][road][0] == place]


def all_simple(net, start, goal, shut=()):
    """All simple ways from the start to the goal, at no shut place, put in order."""
    found = []

    def go(way, place, been):
        if place == goal:
            found.append(way)
            return
        for longer, other in ways_on(net, way, place):
            if other not in been and other not in shut:
                go(longer, other, {*been, other})

    go((), start, {start})
    return sorted(found, key=rank(net))


def all_walks(net, start, goal, most):
    """All walks from the start to the goal that cost so much at most, put in order."""
    found = []
    ends = [((), start)]
    while ends:
        found += [way for way, place in ends if place == goal]
        ends = [(longer, other) for way, place in ends for longer, other in ways_on(net, way, place)
                if cost(net, longer) <= most]
    return sorted(found, key=rank(net))


def walk_counts(net, start, goal, most):
    """How many walks cost just 0, 1 and so on up to most, reckoned from the start on."""
    at = [{start: 1}] + [{} for _ in range(most)]
    for paid in range(most + 1):
        for place, many in at[paid].items():
            for one, other, price, _ in net[1]:
                if one == place and paid + price <= most:
                    at[paid + price][other] = at[paid + price].get(other, 0) + many
    return [row.get(goal, 0) for row in at]


@functools.cache
def greatest(net, goal, shut=()):
    """The greatest prices: the least costs between all pairs of places, by way of one place after the other."""
    places, roads = net
    far = float("inf")
    between = [[0 if one == other else far for other in range(places)] for one in range(places)]
    for one, other, price, _ in roads:
        if one not in shut and other not in shut:
            between[one][other] = min(between[one][other], price)
    for by in range(places):
        for row in between:
            if row[by] < far:
                row[:] = [min(price, row[by] + on) for price, on in zip(row, between[by])]
    told = [between[place][goal] for place in range(places)]
    return tuple(None if place in shut or told[place] == far else told[place] for place in range(places))


def whole(thing):
    return type(thing) is int


def are_priced(net, goal, thing, shut=()):
    """Whether a thing is prices, by the words of point 12."""
    if type(thing) is not tuple or len(thing) != net[0]:
        return False
    for place, price in enumerate(thing):
        if price is not None and not (whole(price) and price >= 0):
            return False
        if place in shut and price is not None:
            return False
    if thing[goal] is None or thing[goal] > 0:
        return False
    for one, other, price, _ in net[1]:
        if one in shut or other in shut or thing[other] is None:
            continue
        if thing[one] is None or thing[one] > price + thing[other]:
            return False
    return True


def stops(net, start, way):
    """The places that a way is at."""
    return [start] + [net[1][road][1] for road in way]


def is_way_to(net, start, goal, thing):
    """Whether a thing is a simple way from the start to the goal."""
    if type(thing) is not tuple:
        return False
    place, been = start, [start]
    for road in thing:
        if not whole(road) or road not in range(len(net[1])) or net[1][road][0] != place:
            return False
        place = net[1][road][1]
        if place in been:
            return False
        been.append(place)
    return place == goal


def beginnings(start, goal, told):
    """What the rows of a paper are told by, in their order."""
    due = {way[:many] for way in told for many in range(len(way))}
    return sorted(due | {()} if start != goal else due)


def paper_for(net, start, goal, told, prices=greatest):
    """A paper of a told list, with the greatest prices or with others."""
    return tuple((way, prices(net, goal, tuple(sorted(stops(net, start, way)))))
                 for way in beginnings(start, goal, told))


def looked(net, start, goal, told, paper):
    """What a paper shows of a told list, by the words of points 31 and 32."""
    if type(told) is not tuple or len(told) > 12 or not all(is_way_to(net, start, goal, way) for way in told):
        return None
    if any(rank(net)(told[at]) >= rank(net)(told[at + 1]) for at in range(len(told) - 1)):
        return None
    due = beginnings(start, goal, told)
    if type(paper) is not tuple or len(paper) != len(due):
        return None
    parts = [0] if start == goal and not told else []
    for way, row in zip(due, paper):
        if type(row) is not tuple or len(row) != 2 or repr(row[0]) != repr(way):
            return None
        shut = stops(net, start, way)
        if not are_priced(net, goal, row[1], shut):
            return None
        gone_on = {other[len(way)] for other in told if other[:len(way)] == way}
        for road, (one, other, price, _) in enumerate(net[1]):
            if one == shut[-1] and other not in shut and road not in gone_on and row[1][other] is not None:
                parts.append(cost(net, way) + price + row[1][other])
    if not parts:
        return "all"
    return "least" if told and min(parts) >= cost(net, told[-1]) else None


def renet(net, road, price):
    """The net with a road's cost turned or the road gone."""
    roads = list(net[1])
    if price is None:
        del roads[road]
    else:
        roads[road] = (*roads[road][:2], price, roads[road][3])
    return (net[0], tuple(roads))


def renumbered(way, road, price):
    """A way's new numbers, None where it has the road that is gone."""
    if price is not None:
        return way
    return None if road in way else tuple(number - (number > road) for number in way)


def behind(net, start, goal, told, paper, road, price):
    """What point 61 tells, by the test's own look."""
    ways = tuple(renumbered(way, road, price) for way in told)
    if None in ways:
        return None
    rows = tuple((renumbered(way, road, price), prices) for way, prices in paper)
    shown = looked(renet(net, road, price), start, goal, ways, rows)
    return None if shown is None else (ways, rows, shown)
