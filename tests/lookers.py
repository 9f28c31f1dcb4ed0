"""Looks of the tests' own at sets that are apart, at bounds, cuts, fronts and fences, by the words of the document."""

import itertools

from reckoning import all_simple, cost, is_way_to, stops, whole


def time(net, way):
    return sum(net[1][road][3] for road in way)


def is_text(thing, word):
    return type(thing) is str and thing == word


def is_tuple(thing, many):
    return type(thing) is tuple and len(thing) == many


def shared(net, start, goal, way, by):
    """What a way may have in common with no other one."""
    held = {("road", road) for road in way}
    if by == "places":
        held |= {("place", place) for place in stops(net, start, way) if place not in (start, goal)}
    return held


def apart_cost(net, start, goal, thing, many, by):
    """What a thing costs as a set of so many that is apart (point 40), None where it is none."""
    if not is_tuple(thing, many) or not all(is_way_to(net, start, goal, way) for way in thing):
        return None
    if any(one >= other for one, other in zip(thing, thing[1:])):
        return None
    for one, other in itertools.combinations(thing, 2):
        if shared(net, start, goal, one, by) & shared(net, start, goal, other, by):
            return None
    return sum(cost(net, way) for way in thing)


def sets_apart(net, start, goal, many, by):
    """All sets of so many ways that are apart, all ways tried."""
    ways = [(way, shared(net, start, goal, way, by)) for way in sorted(all_simple(net, start, goal))]

    def more(chosen, held, first):
        if len(chosen) == many:
            yield chosen
            return
        for at in range(first, len(ways)):
            if not ways[at][1] & held:
                yield from more((*chosen, ways[at][0]), held | ways[at][1], at + 1)

    return more((), set(), 0)


def least_cost_apart(net, start, goal, many, by):
    """What the least of all sets costs, None where there is none."""
    return min((sum(cost(net, way) for way in ways) for ways in sets_apart(net, start, goal, many, by)), default=None)


def are_wholes(thing, many, least):
    return is_tuple(thing, many) and all(whole(part) and part >= least for part in thing)


def bound_number(net, start, goal, thing, many, by):
    """What a thing shows as a bound (point 41), None where it is none."""
    places, roads = net
    if not is_tuple(thing, 4) or not is_text(thing[0], "bound"):
        return None
    _, prices, of_roads, of_places = thing
    if not is_tuple(prices, places) or not all(are_wholes(pair, 2, float("-inf")) for pair in prices):
        return None
    if not are_wholes(of_roads, len(roads), 0) or not are_wholes(of_places, places, 0):
        return None
    for place, (comes, goes) in enumerate(prices):
        if of_places[place] and (by == "roads" or place in (start, goal)):
            return None
        if comes > goes + of_places[place] or by == "roads" and comes != goes:
            return None
    for road, (one, other, price, _) in enumerate(roads):
        if prices[one][1] > prices[other][0] + price + of_roads[road]:
            return None
    return many * (prices[start][1] - prices[goal][0]) - sum(of_roads) - sum(of_places)


def is_cut_off(net, start, goal, roads, shut):
    """Whether no way leads from the start to the goal without these roads and places."""
    been, ahead = {start}, [start]
    while ahead:
        place = ahead.pop()
        for road, (one, other, _, _) in enumerate(net[1]):
            if one == place and road not in roads and other not in shut and other not in been:
                been.add(other)
                ahead.append(other)
    return goal not in been


def is_cut_by(net, start, goal, thing, many, by):
    """Whether a thing is a cut (point 41)."""
    if not is_tuple(thing, 3) or not is_text(thing[0], "cut"):
        return False
    _, roads, shut = thing
    for part, most in ((roads, len(net[1])), (shut, net[0])):
        if type(part) is not tuple or not all(whole(number) and number in range(most) for number in part):
            return False
        if sorted(set(part)) != list(part):
            return False
    if start in shut or goal in shut or by == "roads" and shut or len(roads) + len(shut) >= many:
        return False
    return is_cut_off(net, start, goal, roads, shut)


def bound_looked(net, start, goal, thing, many, by):
    """What a thing shows by the words of points 41 and 42."""
    number = bound_number(net, start, goal, thing, many, by)
    if number is not None:
        return number
    return "none" if is_cut_by(net, start, goal, thing, many, by) else None


def beats(one, other):
    """Whether a pair beats another one (point 50)."""
    return one[0] <= other[0] and one[1] <= other[1] and (one[0] < other[0] or one[1] < other[1])


def unbeaten(pairs):
    return sorted({pair for pair in pairs if not any(beats(other, pair) for other in pairs)})


def front_reckoned(net, start, goal):
    """The front, all simple ways gone through."""
    least = {}
    for way in sorted(all_simple(net, start, goal), reverse=True):
        least[cost(net, way), time(net, way)] = way
    return [(*pair, least[pair]) for pair in unbeaten(list(least))]


def fence_reckoned(net, start):
    """The least fence, all simple ways gone through."""
    return tuple(tuple(unbeaten([(cost(net, way), time(net, way)) for way in all_simple(net, start, place)]))
                 for place in range(net[0]))


def is_fenced(net, start, thing):
    """Whether a thing is a fence (point 51)."""
    if not is_tuple(thing, net[0]):
        return False
    for pairs in thing:
        if type(pairs) is not tuple or not all(are_wholes(pair, 2, 0) for pair in pairs):
            return False
        if any(one >= other for one, other in zip(pairs, pairs[1:])):
            return False
    if (0, 0) not in thing[start]:
        return False
    return all(any(paid <= own + price and spent <= took + lasts for paid, spent in thing[other])
               for one, other, price, lasts in net[1] for own, took in thing[one])


def comes_to(net, start, thing):
    """Where a thing comes to as a way from the start, None where it is none."""
    if type(thing) is not tuple:
        return None
    place = start
    for road in thing:
        if not whole(road) or road not in range(len(net[1])) or net[1][road][0] != place:
            return None
        place = net[1][road][1]
    return place


def front_held(net, start, goal, front, fence):
    """Whether a front and a fence hold (point 51)."""
    if type(front) is not list or not is_fenced(net, start, fence):
        return False
    pairs = []
    for row in front:
        if not is_tuple(row, 3) or not are_wholes(row[:2], 2, 0) or comes_to(net, start, row[2]) != goal:
            return False
        if row[:2] != (cost(net, row[2]), time(net, row[2])):
            return False
        pairs.append(row[:2])
    if any(one >= other for one, other in zip(pairs, pairs[1:])) or unbeaten(pairs) != pairs:
        return False
    return all(pair in pairs or any(beats(one, pair) for one in pairs) for pair in fence[goal])
