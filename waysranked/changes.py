"""Changes of a net: a road's cost turned or a road shut, and what stays of ways, papers and told lists."""

from waysranked.errors import NoChange, NoPaper, NoWay
from waysranked.nets import LEAST_COST, MOST_COST, check_ends, check_net, check_road, is_road_of, is_tuple_of
from waysranked.papers import shown_by
from waysranked.simple import least_simple
from waysranked.wholes import is_within


def changed(net, change):
    """Tell the net with the change."""
    check_net(net)
    check_change(net, change)
    return net_behind(net, change)


def way_behind(net, way, change):
    """Tell a tuple of numbers of roads by their new numbers; None where it has the shut road."""
    check_net(net)
    if not isinstance(way, tuple) or not all([is_road_of(net, road) for road in way]):
        raise NoWay("this is no tuple of numbers of roads of the net")
    check_change(net, change)
    return roads_behind(way, change)


def paper_behind(net, start, goal, told, paper, change):
    """Tell (told, paper, shown), what a told list and its paper are and show in the net with the change; else None."""
    if shown_by(net, start, goal, told, paper) is None:
        raise NoPaper("this told list and this paper show nothing")
    check_change(net, change)
    return shown_behind(net_behind(net, change), start, goal, told, paper, change)


def span_of(net, start, goal, road, *, many=3):
    """Tell (low, high), between which the road's cost may be anything for the told list to be the same."""
    check_ends(net, start, goal)
    check_road(net, road)
    told = least_simple(net, start, goal, many=many)

    def is_same(cost):
        return least_simple(net_behind(net, (road, cost)), start, goal, many=many) == told

    own = net[1][road][2]
    return furthest(is_same, own, LEAST_COST), furthest(is_same, own, MOST_COST)


def furthest(is_same, own, end):
    """Tell the cost furthest from the own one, towards the end, up to which all is the same."""
    if is_same(end):
        return end
    # The cost of each way with the road grows as the road's does, that of others stays. So two ways change their order
    # once at most, and what is the same at two costs is so between them: halving finds where it ends.
    while abs(end - own) > 1:
        middle = (own + end) // 2
        if is_same(middle):
            own = middle
        else:
            end = middle
    return own


def is_change(net, thing):
    """Tell whether a thing is a change of the net."""
    if not is_tuple_of(thing, 2) or not is_road_of(net, thing[0]):
        return False
    return thing[1] is None or is_within(thing[1], LEAST_COST, MOST_COST)


def check_change(net, thing):
    """Refuse what is no change of the net."""
    if not is_change(net, thing):
        raise NoChange("this is no change of the net")


def net_behind(net, change):
    """Tell the net with the change, where this is known to be one."""
    places, roads = net
    number, cost = change
    if cost is None:
        return places, roads[:number] + roads[number + 1:]
    one, other, paid, time = roads[number]
    return places, roads[:number] + ((one, other, cost, time),) + roads[number + 1:]


def roads_behind(way, change):
    """Tell the numbers that these roads have behind the change, None where one of them is shut."""
    number, cost = change
    if cost is not None:
        return way
    if number in way:
        return None
    return tuple([road - 1 if road > number else road for road in way])


def shown_behind(net, start, goal, told, paper, change):
    """Tell (told, paper, shown) in the net behind the change, where both showed something ahead; else None."""
    ways = tuple([roads_behind(way, change) for way in told])
    # A beginning has no road that no told way has, so where none of these is gone no beginning is.
    if None in ways:
        return None
    rows = tuple([(roads_behind(beginning, change), prices) for beginning, prices in paper])
    shown = shown_by(net, start, goal, ways, rows)
    if shown is None:
        return None
    return ways, rows, shown
