"""Walks from a start to a goal, told by how many there are of each cost."""

from waysranked.errors import NoCost, NoNumber, NoWay
from waysranked.nets import check_ends, cost_along, places_along
from waysranked.wholes import check_many, is_within

MOST_WALK_COST = 600
MOST_NUMBER = 10 ** 15
MOST_WALKS = 40


def count_of(net, start, goal, cost):
    """Tell how many walks cost just that."""
    check_ends(net, start, goal)
    check_cost(cost)
    return rows_up_to(net, goal, cost)[-1][start]


def count_to(net, start, goal, cost):
    """Tell how many walks cost that at most."""
    check_ends(net, start, goal)
    check_cost(cost)
    return sum([row[start] for row in rows_up_to(net, goal, cost)])


def walk_of(net, start, goal, number):
    """Tell the walk that so many are less than; None where there is none of a cost that is let."""
    check_ends(net, start, goal)
    if not is_within(number, 0, MOST_NUMBER):
        raise NoNumber("this is no number of a walk")
    rows = []
    left = number
    while len(rows) <= MOST_WALK_COST:
        rows.append(next_row(net, goal, rows))
        if left < rows[-1][start]:
            return walk_within(net, start, rows, left)
        left -= rows[-1][start]
    return None


def number_of(net, start, goal, way):
    """Tell how many walks are less than this one."""
    check_ends(net, start, goal)
    along = places_along(net, start, way)
    if along is None or along[-1] != goal:
        raise NoWay("this is no walk from the start to the goal")
    left = cost_along(net, way)
    check_cost(left)
    rows = rows_up_to(net, goal, left)
    number = sum([row[start] for row in rows[:-1]])
    for place, taken in zip(along, way):
        number += sum([many for road, many in steps_from(net, place, rows, left) if road < taken])
        left -= net[1][taken][2]
    return number


def least_walks(net, start, goal, many):
    """Tell the list of the many least walks, fewer where there are no more of a cost that is let."""
    check_ends(net, start, goal)
    check_many(many, 0, MOST_WALKS)
    rows = []
    told = []
    while len(told) < many and len(rows) <= MOST_WALK_COST:
        rows.append(next_row(net, goal, rows))
        fresh = min(rows[-1][start], many - len(told))
        told += [walk_within(net, start, rows, number) for number in range(fresh)]
    return told


def check_cost(thing):
    """Refuse what is no cost that a walk may be asked by."""
    if not is_within(thing, 0, MOST_WALK_COST):
        raise NoCost("this is no cost that is let")


def rows_up_to(net, goal, cost):
    """Tell for each cost from 0 to this one its row: how many walks of it lead from each place to the goal."""
    rows = []
    while len(rows) <= cost:
        rows.append(next_row(net, goal, rows))
    return rows


def next_row(net, goal, rows):
    """Tell the row of the next cost behind these rows."""
    cost = len(rows)
    row = [0] * net[0]
    if cost == 0:
        row[goal] = 1
    for one, other, paid, time in net[1]:
        if paid <= cost:
            row[one] += rows[cost - paid][other]
    return row


def steps_from(net, place, rows, left):
    """Tell of each road from the place, rising, (road, many): how many walks that cost what is left begin with it."""
    steps = []
    for road, (one, other, paid, time) in enumerate(net[1]):
        if one == place and paid <= left:
            steps.append((road, rows[left - paid][other]))
    return steps


def walk_within(net, start, rows, number):
    """Tell the walk that so many of its own cost, that of the last row, are less than."""
    walk = []
    place = start
    left = len(rows) - 1
    # Each road costs something, so a walk ends just where nothing is left.
    while left > 0:
        taken, number = step_at(steps_from(net, place, rows, left), number)
        walk.append(taken)
        place = net[1][taken][1]
        left -= net[1][taken][2]
    return tuple(walk)


def step_at(steps, number):
    """Tell the road by which the walk of this number begins, and its number among those that begin so."""
    at = 0
    while number >= steps[at][1]:
        number -= steps[at][1]
        at += 1
    return steps[at][0], number
