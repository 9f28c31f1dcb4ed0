"""Prices of the places of a net: below what no way from them to a goal can be had."""

from waysranked.errors import NoShut
from waysranked.nets import check_net, check_place, is_tuple_of
from waysranked.wholes import is_rising, is_whole, is_within


def prices_of(net, goal, *, shut=()):
    """Tell the greatest prices of the net and the goal."""
    check_net(net)
    check_place(net, goal)
    check_shut(net, goal, shut)
    return greatest_prices(net, goal, shut)


def are_prices(net, goal, thing, *, shut=()):
    """Tell whether a thing of whatever kind is prices of the net and the goal."""
    check_net(net)
    check_place(net, goal)
    check_shut(net, goal, shut)
    return prices_hold(net, goal, thing, shut)


def check_shut(net, goal, thing):
    """Refuse what is no rising tuple of places other than the goal."""
    if not isinstance(thing, tuple):
        raise NoShut("this is no tuple of places to be shut")
    if not all([is_within(place, 0, net[0] - 1) and place != goal for place in thing]):
        raise NoShut("there is something else among these than places to be shut")
    if not is_rising(thing):
        raise NoShut("these places to be shut do not rise")


def free_roads(net, shut):
    """Tell the roads that neither lead from a shut place nor to one, as a list."""
    return [road for road in net[1] if road[0] not in shut and road[1] not in shut]


def greatest_prices(net, goal, shut):
    """Tell the greatest prices, where net, goal and shut places are known to be such."""
    roads = free_roads(net, shut)
    prices = [None] * net[0]
    prices[goal] = 0
    # A least way is at no place twice, so it has fewer roads than there are places, and so many rounds price it.
    for turn in range(1, net[0]):
        for one, other, cost, time in roads:
            if exceeds(prices[one], cost, prices[other]):
                prices[one] = cost + prices[other]
    return tuple(prices)


def exceeds(own, cost, ahead):
    """Tell whether a place's price is missing or too great by a road of this cost to a place with the price ahead."""
    return ahead is not None and (own is None or own > cost + ahead)


def prices_hold(net, goal, thing, shut):
    """Tell whether a thing is prices, where net, goal and shut places are known to be such."""
    if not is_tuple_of(thing, net[0]) or not all([is_price(part) for part in thing]):
        return False
    if thing[goal] != 0 or any([thing[place] is not None for place in shut]):
        return False
    return not any([exceeds(thing[one], cost, thing[other]) for one, other, cost, time in free_roads(net, shut)])


def is_price(thing):
    """Tell whether a thing may be the price of some place."""
    return thing is None or (is_whole(thing) and thing >= 0)
