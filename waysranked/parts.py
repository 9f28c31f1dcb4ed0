"""The parts of the simple ways that a told list leaves out, each told by how its ways begin."""

from waysranked.nets import places_along


def beginnings_of(start, goal, told):
    """Tell the beginnings that have a row in a paper of the told ways, as a rising list."""
    if start == goal:
        return []
    beginnings = [()]
    for way in told:
        beginnings.extend(cuts_of(way))
    return sorted(set(beginnings))


def cuts_of(way):
    """Tell all beginnings of a way but itself, as a list."""
    return [way[:many] for many in range(len(way))]


def shut_by(net, start, beginning):
    """Tell the places that are shut to what goes on from a beginning, as a rising tuple."""
    return tuple(sorted(places_along(net, start, beginning)))


def steps_on(net, start, told, beginning, prices):
    """Tell the priced steps by which the ways of a part go on from its beginning, by the prices of its row."""
    place = places_along(net, start, beginning)[-1]
    taken = roads_taken(told, beginning)
    return [step for step in priced_steps(net, place, prices) if step[1] not in taken]


def priced_steps(net, place, prices):
    """Tell (least, road) of each road from the place to one with a price: what is at least paid by it to the goal.

    A shut place has no price, so no road to one is told.
    """
    steps = []
    for road, (one, other, cost, time) in enumerate(net[1]):
        if one == place and prices[other] is not None:
            steps.append((cost + prices[other], road))
    return steps


def roads_taken(told, beginning):
    """Tell the roads by which told ways go on from a beginning, as a list."""
    many = len(beginning)
    # A told way ends at the goal, where no beginning comes to, so each that begins so goes on.
    return [way[many] for way in told if way[:many] == beginning]
