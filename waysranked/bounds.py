"""Bounds and cuts: what shows that no set of ways that is apart costs less, or that there is none."""

from waysranked.apart import check_apart
from waysranked.flows import arcs_of, least_flow, least_paths, node_prices, outs_of
from waysranked.nets import is_tuple_of
from waysranked.prices import greatest_prices
from waysranked.wholes import is_rising, is_whole, is_within


def bound_shows(net, start, goal, thing, *, many=2, by="roads"):
    """Tell what a thing shows: the number of a bound, "none" of a cut, None of what is neither."""
    check_apart(net, start, goal, many, by)
    if is_bound(net, start, goal, thing, by):
        word, prices, roads, places = thing
        return many * (prices[start][1] - prices[goal][0]) - sum(roads) - sum(places)
    if is_cut(net, start, goal, thing, many, by):
        return "none"
    return None


def bound_of(net, start, goal, *, many=2, by="roads"):
    """Tell some bound that shows just the least cost of a set, or some cut where there is no set."""
    check_apart(net, start, goal, many, by)
    outs = outs_of(net, start, goal, by)
    arcs = arcs_of(net, outs)
    ways, taken = least_flow(arcs, start, goal, many)
    if ways < many:
        return cut_beside(net, outs, least_paths(arcs, taken, start))
    return bound_by(net, outs, node_prices(max(outs) + 1, arcs, taken))


def cut_beside(net, outs, reached):
    """Tell the cut of what leads on from the nodes that can be reached beside a flow, which goes along all of that."""
    roads = [road for road, (one, other, cost, time) in enumerate(net[1]) if outs[one] in reached]
    roads = [road for road in roads if net[1][road][1] not in reached]
    places = [place for place, out in enumerate(outs) if place in reached and out not in reached]
    return "cut", tuple(roads), tuple(places)


def bound_by(net, outs, prices):
    """Tell the bound with these prices of the nodes and the least numbers of roads and places that go with them."""
    pairs = tuple([(prices[place], prices[out]) for place, out in enumerate(outs)])
    roads = tuple([max(0, pairs[one][1] - pairs[other][0] - cost) for one, other, cost, time in net[1]])
    return "bound", pairs, roads, tuple([max(0, inward - outward) for inward, outward in pairs])


def is_bound(net, start, goal, thing, by):
    """Tell whether a thing is a bound."""
    if not is_tuple_of(thing, 4) or thing[0] != "bound":
        return False
    word, prices, roads, places = thing
    if not are_pairs(prices, net[0]) or not are_numbers(roads, len(net[1])) or not are_numbers(places, net[0]):
        return False
    if places[start] != 0 or places[goal] != 0:
        return False
    if by == "roads" and not are_one(prices, places):
        return False
    return are_bounded(net, prices, roads, places)


def are_pairs(thing, many):
    """Tell whether a thing is a tuple of so many pairs of whole numbers."""
    if not is_tuple_of(thing, many) or not all([is_tuple_of(pair, 2) for pair in thing]):
        return False
    return all([is_whole(price) for pair in thing for price in pair])


def are_numbers(thing, many):
    """Tell whether a thing is a tuple of so many whole numbers from 0 on."""
    return is_tuple_of(thing, many) and all([is_whole(number) and number >= 0 for number in thing])


def are_one(prices, places):
    """Tell whether in and out are one at each place, and no place has a number, as it is to be by "roads"."""
    return not any(places) and all([inward == outward for inward, outward in prices])


def are_bounded(net, prices, roads, places):
    """Tell whether prices fall along no place by more than its number, and along no road by more than its own too."""
    if not all([inward <= outward + number for (inward, outward), number in zip(prices, places)]):
        return False
    bounded = []
    for (one, other, cost, time), number in zip(net[1], roads):
        bounded.append(prices[one][1] <= prices[other][0] + cost + number)
    return all(bounded)


def is_cut(net, start, goal, thing, many, by):
    """Tell whether a thing is a cut."""
    if not is_tuple_of(thing, 3) or thing[0] != "cut":
        return False
    word, roads, places = thing
    if not are_rising_below(roads, len(net[1])) or not are_rising_below(places, net[0]):
        return False
    if start in places or goal in places or (by == "roads" and places):
        return False
    return len(roads) + len(places) < many and parts_off(net, start, goal, roads, places)


def are_rising_below(thing, most):
    """Tell whether a thing is a rising tuple of whole numbers from 0 on that are below the most."""
    return isinstance(thing, tuple) and all([is_within(part, 0, most - 1) for part in thing]) and is_rising(thing)


def parts_off(net, start, goal, roads, places):
    """Tell whether without these roads and places no way leads from the start to the goal."""
    left = tuple([road for number, road in enumerate(net[1]) if number not in roads])
    return greatest_prices((net[0], left), goal, places)[start] is None
