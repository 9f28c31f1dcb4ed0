"""Papers: what shows of told ways that no simple way that is left out costs less."""

from waysranked.nets import check_ends, cost_along, is_simple_between, is_tuple_of, places_along
from waysranked.parts import beginnings_of, shut_by, steps_on
from waysranked.prices import greatest_prices, prices_hold
from waysranked.simple import MOST_SIMPLE, least_simple
from waysranked.wholes import is_rising


def shown_by(net, start, goal, told, paper):
    """Tell what a paper shows of a told list: "all", "least" or None."""
    check_ends(net, start, goal)
    if not is_told(net, start, goal, told) or not is_paper(net, start, goal, told, paper):
        return None
    if start == goal:
        # Where the one simple way () is left out, its part costs 0, and nothing is told that could be the least.
        return "all" if told else None
    costs = [part_cost(net, start, told, beginning, prices) for beginning, prices in paper]
    known = [cost for cost in costs if cost is not None]
    if not known:
        return "all"
    if told and min(known) >= cost_along(net, told[-1]):
        return "least"
    return None


def paper_of(net, start, goal, *, many=3):
    """Tell (told, paper), the many least simple ways and what shows them."""
    told = tuple(least_simple(net, start, goal, many=many))
    return told, tuple([row_of(net, start, goal, beginning) for beginning in beginnings_of(start, goal, told)])


def row_of(net, start, goal, beginning):
    """Tell the row of a beginning with the greatest prices."""
    return beginning, greatest_prices(net, goal, shut_by(net, start, beginning))


def is_told(net, start, goal, thing):
    """Tell whether a thing is a told list: unlike simple ways from the start to the goal, rising."""
    if not isinstance(thing, tuple) or len(thing) > MOST_SIMPLE:
        return False
    if not all([is_simple_between(net, start, goal, way) for way in thing]):
        return False
    return is_rising([(cost_along(net, way), way) for way in thing])


def is_paper(net, start, goal, told, thing):
    """Tell whether a thing is a paper of the told list: one row for each beginning, rising."""
    due = beginnings_of(start, goal, told)
    if not is_tuple_of(thing, len(due)):
        return False
    return all([is_row(net, start, goal, beginning, row) for beginning, row in zip(due, thing)])


def is_row(net, start, goal, beginning, thing):
    """Tell whether a thing is a row of this beginning: with prices where the beginning's places are shut."""
    if not is_tuple_of(thing, 2):
        return False
    # True and False equal numbers of roads but are none, so being equal alone would not do.
    if places_along(net, start, thing[0]) is None or thing[0] != beginning:
        return False
    return prices_hold(net, goal, thing[1], shut_by(net, start, beginning))


def part_cost(net, start, told, beginning, prices):
    """Tell what a part costs at least by its row, None where no road goes on."""
    steps = steps_on(net, start, told, beginning, prices)
    if not steps:
        return None
    return cost_along(net, beginning) + min(steps)[0]
