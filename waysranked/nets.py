"""Nets of places and roads, and the ways along their roads."""

from waysranked.errors import NoNet, NoPlace, NoRoad
from waysranked.wholes import is_within

MOST_PLACES = 10
MOST_ROADS = 30
LEAST_COST = 1
MOST_COST = 99
MOST_TIME = 99


def is_net(thing):
    """Tell whether a thing of whatever kind is a net."""
    if not is_tuple_of(thing, 2):
        return False
    places, roads = thing
    if not is_within(places, 1, MOST_PLACES):
        return False
    if not isinstance(roads, tuple) or len(roads) > MOST_ROADS:
        return False
    return all([is_road_among(places, road) for road in roads])


def is_tuple_of(thing, many):
    """Tell whether a thing is a tuple with so many parts."""
    return isinstance(thing, tuple) and len(thing) == many


def is_road_among(places, thing):
    """Tell whether a thing is a road (one, other, cost, time) of a net with so many places."""
    if not is_tuple_of(thing, 4):
        return False
    one, other, cost, time = thing
    if not is_within(one, 0, places - 1) or not is_within(other, 0, places - 1):
        return False
    return one != other and is_within(cost, LEAST_COST, MOST_COST) and is_within(time, 0, MOST_TIME)


def check_net(thing):
    """Refuse what is no net."""
    if not is_net(thing):
        raise NoNet("this is no net")


def check_place(net, thing):
    """Refuse what is no place of the net."""
    if not is_within(thing, 0, net[0] - 1):
        raise NoPlace("this is no place of the net")


def is_road_of(net, thing):
    """Tell whether a thing is the number of a road of the net."""
    return is_within(thing, 0, len(net[1]) - 1)


def check_road(net, thing):
    """Refuse what is no road of the net."""
    if not is_road_of(net, thing):
        raise NoRoad("this is no road of the net")


def check_ends(net, start, goal):
    """Refuse what is no net, and then what are no start and no goal in it."""
    check_net(net)
    check_place(net, start)
    check_place(net, goal)


def way_of(net, place, thing):
    """Tell (place, cost, time), where a way from the place comes to and what it comes to; None of what is none."""
    check_net(net)
    check_place(net, place)
    along = places_along(net, place, thing)
    if along is None:
        return None
    return along[-1], cost_along(net, thing), sum([net[1][number][3] for number in thing])


def is_simple(net, place, thing):
    """Tell whether a thing is a way from the place that is at no place twice."""
    check_net(net)
    check_place(net, place)
    return is_at_none_twice(places_along(net, place, thing))


def is_at_none_twice(along):
    """Tell of the places that a way is at, None where there is no way, whether the way is simple."""
    return along is not None and len(set(along)) == len(along)


def is_simple_between(net, start, goal, thing):
    """Tell whether a thing is a simple way from the start to the goal."""
    along = places_along(net, start, thing)
    return is_at_none_twice(along) and along[-1] == goal


def cost_along(net, way):
    """Tell what the roads of a way cost together."""
    return sum([net[1][number][2] for number in way])


def places_along(net, place, thing):
    """Tell the places that a way from the place is at, as a list, this place first; None of what is no such way."""
    if not isinstance(thing, tuple):
        return None
    roads = net[1]
    along = [place]
    for number in thing:
        # A number below 0 would count from the last road in Python.
        if not is_road_of(net, number):
            return None
        if roads[number][0] != along[-1]:
            return None
        along.append(roads[number][1])
    return along
