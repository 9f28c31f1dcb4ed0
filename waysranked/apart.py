"""Sets of simple ways that share no road, or no place either but start and goal."""

from waysranked.errors import NoPlace, NoWord
from waysranked.flows import arcs_of, least_flow, outs_of
from waysranked.nets import check_ends, cost_along, is_simple_between, is_tuple_of, places_along
from waysranked.wholes import check_many, is_rising

MOST_APART = 4
WORDS = ("roads", "places")


def cost_apart(net, start, goal, thing, *, many=2, by="roads"):
    """Tell what a set of so many ways that is apart costs; None of what is no such set."""
    check_apart(net, start, goal, many, by)
    if not is_set(net, start, goal, thing, many):
        return None
    if not is_apart(net, start, thing, by):
        return None
    return sum([cost_along(net, way) for way in thing])


def least_apart(net, start, goal, *, many=2, by="roads"):
    """Tell some set of so many ways that is apart of the least cost; None where there is none."""
    check_apart(net, start, goal, many, by)
    ways, taken = least_flow(arcs_of(net, outs_of(net, start, goal, by)), start, goal, many)
    if ways < many:
        return None
    return tuple(sorted(ways_along(net, start, goal, taken)))


def check_apart(net, start, goal, many, by):
    """Refuse what no set of ways that is apart can be asked by."""
    check_ends(net, start, goal)
    if start == goal:
        raise NoPlace("the goal is the start")
    check_many(many, 1, MOST_APART)
    if by not in WORDS:
        raise NoWord("this is no word by which ways are apart")


def is_set(net, start, goal, thing, many):
    """Tell whether a thing is a set of so many ways."""
    if not is_tuple_of(thing, many) or not all([is_simple_between(net, start, goal, way) for way in thing]):
        return False
    return is_rising(thing)


def is_apart(net, start, ways, by):
    """Tell whether the ways of a set share nothing that they are not to share."""
    if has_twice([road for way in ways for road in way]):
        return False
    return by == "roads" or not has_twice([place for way in ways for place in places_between(net, start, way)])


def has_twice(numbers):
    """Tell whether some number is in a list twice."""
    return len(set(numbers)) < len(numbers)


def places_between(net, start, way):
    """Tell the places that a way is at between its start and its goal, as a list."""
    return places_along(net, start, way)[1:-1]


def ways_along(net, start, goal, taken):
    """Tell the ways that a flow of the least cost goes along, as a list."""
    left = [road for road in range(len(net[1])) if taken[road]]
    firsts = roads_from(net, start, left)
    ways = []
    # Each road costs something, so the least flow leads nowhere round: each way is simple, and none leads to the start.
    for first in firsts:
        way = [first]
        while net[1][way[-1]][1] != goal:
            road = roads_from(net, net[1][way[-1]][1], left)[0]
            left.remove(road)
            way.append(road)
        ways.append(tuple(way))
    return ways


def roads_from(net, place, roads):
    """Tell those of the roads that lead from a place, as a list."""
    return [road for road in roads if net[1][road][0] == place]
