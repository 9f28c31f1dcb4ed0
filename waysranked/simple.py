"""The least simple ways from a start to a goal."""

from waysranked.nets import check_ends, cost_along
from waysranked.parts import cuts_of, priced_steps, shut_by, steps_on
from waysranked.prices import greatest_prices
from waysranked.wholes import check_many

MOST_SIMPLE = 12


def least_simple(net, start, goal, *, many=3):
    """Tell the list of the many least simple ways, rising, fewer where there are no more."""
    check_ends(net, start, goal)
    check_many(many, 1, MOST_SIMPLE)
    if start == goal:
        return [()]
    told = []
    least = {}
    changed = [()]
    while len(told) < many:
        for beginning in changed:
            least[beginning] = least_of_part(net, start, goal, told, beginning)
        left = [pair for pair in least.values() if pair is not None]
        if not left:
            return told
        way = min(left)[1]
        told.append(way)
        # Only the parts that the new way begins as have another rest now than ahead, or are new.
        changed = cuts_of(way)
    return told


def least_of_part(net, start, goal, told, beginning):
    """Tell (cost, way) of the least way of a part, None where it has none."""
    prices = greatest_prices(net, goal, shut_by(net, start, beginning))
    steps = steps_on(net, start, told, beginning, prices)
    if not steps:
        return None
    road = min(steps)[1]
    way = beginning + (road,) + least_from(net, net[1][road][1], prices)
    return cost_along(net, way), way


def least_from(net, start, prices):
    """Tell the least way to the goal from a place that has a price; the prices are the greatest ones."""
    way = []
    place = start
    # Along least roads prices fall, so the way is simple; of like ones the first makes the way less than the others.
    while prices[place] > 0:
        road = min(priced_steps(net, place, prices))[1]
        way.append(road)
        place = net[1][road][1]
    return tuple(way)
