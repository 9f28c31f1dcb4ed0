"""Fronts: the ways that none beats by cost and time, and fences that show that there are no others."""

from waysranked.errors import NoTime
from waysranked.nets import check_ends, check_net, check_place, is_tuple_of, way_of
from waysranked.wholes import is_rising, is_whole


def front_of(net, start, goal):
    """Tell the front: the rising list of (cost, time, way) of all pairs that none beats, each with its least way."""
    check_ends(net, start, goal)
    return fronts_to(net, goal)[start]


def within(net, start, goal, most):
    """Tell the way of the least cost that takes no more time than the most; None where there is none."""
    check_ends(net, start, goal)
    if not is_whole(most) or most < 0:
        raise NoTime("this is no time")
    # Costs rise along a front, and times fall.
    for cost, time, way in fronts_to(net, goal)[start]:
        if time <= most:
            return way
    return None


def fence_of(net, start):
    """Tell the least fence: for each place the pairs that ways from the start have and none beats."""
    check_net(net)
    check_place(net, start)
    turned = net[0], tuple([(other, one, cost, time) for one, other, cost, time in net[1]])
    fronts = fronts_to(turned, start)
    return tuple([tuple([(cost, time) for cost, time, way in front]) for front in fronts])


def is_fence(net, start, thing):
    """Tell whether a thing of whatever kind is a fence of the start."""
    check_net(net)
    check_place(net, start)
    if not is_tuple_of(thing, net[0]) or not all([are_rising_pairs(pairs) for pairs in thing]):
        return False
    if (0, 0) not in thing[start]:
        return False
    return all([leads_inside(thing[one], cost, time, thing[other]) for one, other, cost, time in net[1]])


def front_holds(net, start, goal, front, fence):
    """Tell whether a thing is a front and another one a fence that shows it."""
    check_ends(net, start, goal)
    if not is_front(net, start, goal, front) or not is_fence(net, start, fence):
        return False
    return leads_inside(fence[goal], 0, 0, [(cost, time) for cost, time, way in front])


def fronts_to(net, goal):
    """Tell for each place the front of its ways to the goal, as a list of lists."""
    fronts = [[] for place in range(net[0])]
    fronts[goal] = [(0, 0, ())]
    # No way of a front is at a place twice, so it has fewer roads than there are places; each round adds one.
    for turn in range(1, net[0]):
        rows = [list(front) for front in fronts]
        for road, (one, other, cost, time) in enumerate(net[1]):
            rows[one] += [(cost + paid, time + spent, (road,) + way) for paid, spent, way in fronts[other]]
        fronts = [unbeaten(row) for row in rows]
    return fronts


def unbeaten(rows):
    """Tell the front that these (cost, time, way) make: of each pair that none beats the least way."""
    front = []
    for row in sorted(rows):
        # Those ahead cost no more, so whatever takes no less time than the last one is beaten or alike.
        if not front or row[1] < front[-1][1]:
            front.append(row)
    return front


def are_rising_pairs(thing):
    """Tell whether a thing is a rising tuple of pairs of whole numbers from 0 on."""
    return isinstance(thing, tuple) and all([is_pair(pair) for pair in thing]) and is_rising(thing)


def is_pair(thing):
    """Tell whether a thing is a pair of whole numbers from 0 on."""
    return is_tuple_of(thing, 2) and all([is_whole(part) and part >= 0 for part in thing])


def leads_inside(pairs, cost, time, others):
    """Tell of each of the rising pairs, with cost and time, whether one of the rising others is no greater in both."""
    least = None
    at = 0
    for paid, spent in pairs:
        while at < len(others) and others[at][0] <= paid + cost:
            least = others[at][1] if least is None else min(least, others[at][1])
            at += 1
        if least is None or least > spent + time:
            return False
    return True


def is_front(net, start, goal, thing):
    """Tell whether a thing is a list of (cost, time, way) to the goal, rising by pairs of which none beats another."""
    if not isinstance(thing, list) or not all([is_front_row(net, start, goal, row) for row in thing]):
        return False
    return is_rising([row[0] for row in thing]) and is_rising([row[1] for row in thing[::-1]])


def is_front_row(net, start, goal, thing):
    """Tell whether a thing is (cost, time, way) of a way from the start to the goal."""
    if not is_tuple_of(thing, 3) or not is_pair(thing[:2]):
        return False
    return way_of(net, start, thing[2]) == (goal, thing[0], thing[1])
