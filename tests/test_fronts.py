"""Points 50 and 51, and points 2, 3, 4 as they bear on them."""

import copy
import itertools
import unittest

from lookers import beats, fence_reckoned, front_held, front_reckoned, is_fenced, time
from reckoning import all_simple, all_walks, cost
from samples import NET, Dice, check_refusals, made_net, odd_things, parameters, ringed_net, variants, with_part
from waysranked.errors import NoNet, NoPlace, NoTime
from waysranked.fronts import fence_of, front_holds, front_of, is_fence, within

# From 0 to 3: (0, 1, 2) has (3, 10), (0, 4) has (6, 5), (3, 4) has (10, 0), and (3, 1, 2) has (7, 5), which is beaten.
FORK = (4, ((0, 1, 1, 5), (1, 2, 1, 1), (2, 3, 1, 4), (0, 1, 5, 0), (1, 3, 5, 0), (3, 0, 1, 0), (1, 0, 1, 0)))
# From 0 to 3 by several ways with the pair (4, 4), and by one with (8, 4), one with (4, 8).
LIKE = (
    4,
    (
        (0, 2, 2, 2), (0, 1, 2, 2), (1, 3, 2, 2), (2, 3, 2, 2), (0, 3, 4, 4), (0, 1, 2, 2), (0, 3, 8, 4), (0, 3, 4, 8),
        (3, 0, 1, 0), (1, 2, 1, 0),
    ),
)
# Roads without time, so that ways round take no longer but cost more.
STILL = (4, ((0, 1, 2, 0), (1, 0, 1, 0), (1, 2, 3, 0), (2, 1, 1, 0), (2, 3, 1, 0), (0, 3, 9, 0), (0, 3, 6, 0)))


def timed_net(seed, places, roads, costs, times):
    """A made net of few costs and times, so that many pairs are alike or beaten."""
    made = ringed_net(seed, places, roads, costs)
    return (places, tuple((*road[:3], road[3] % times) for road in made[1]))


def nets():
    """Nets of up to seven places and twelve roads."""
    told = [FORK, LIKE, STILL, NET, (1, ()), (2, ()), (7, ())]
    for seed in range(70):
        places = 2 + seed % 6
        roads = min(12, places + 3 + seed % 5)
        told.append(timed_net(seed, places, roads, (3, 9, 99)[seed % 3], (1, 3, 9, 100)[seed % 4]))
        told.append(made_net(seed, places, 5 + seed % 8, (3, 9, 99)[seed % 3]))
        # What costs less takes longer, so that fronts are long.
        told.append((places, tuple((*road[:3], 99 - road[2]) for road in told[-2][1])))
    return told


class Front(unittest.TestCase):
    def told(self, net, start, goal, due):
        before = repr((net, start, goal))
        told = front_of(net, start, goal)
        self.assertIs(type(told), list)
        self.assertEqual(told, due, before)
        for row in told:
            self.assertEqual([type(part) for part in row], [int, int, tuple], before)
            self.assertTrue(all(type(road) is int for road in row[2]), before)
            self.assertIs(type(row), tuple)
        self.assertEqual(repr((net, start, goal)), before)

    def test_by_hand(self):
        self.told(FORK, 0, 3, [(3, 10, (0, 1, 2)), (6, 5, (0, 4)), (10, 0, (3, 4))])
        self.told(FORK, 0, 1, [(1, 5, (0,)), (5, 0, (3,))])
        self.told(FORK, 1, 0, [(1, 0, (6,))])
        self.told(STILL, 0, 3, [(6, 0, (0, 2, 4))])
        self.told(NET, 0, 3, [(8, 108, (3, 1, 4)), (9, 103, (0, 1, 4))])

    def test_like_pairs_by_the_least_way(self):
        self.told(LIKE, 0, 3, [(4, 4, (0, 3))])
        self.told((4, LIKE[1][1:]), 0, 3, [(4, 4, (0, 1))])
        self.told((4, LIKE[1][::-1]), 0, 3, [(4, 4, (4, 7))])
        # As tuples compare, whatever their lengths.
        net = (4, ((0, 1, 1, 1), (1, 2, 1, 1), (2, 3, 1, 1), (1, 3, 2, 2), (0, 3, 3, 3)))
        self.told(net, 0, 3, [(3, 3, (0, 1, 2))])
        self.told((4, net[1][::-1]), 0, 3, [(3, 3, (0,))])

    def test_start_and_goal_one(self):
        for net in nets():
            for place in range(net[0]):
                self.told(net, place, place, [(0, 0, ())])

    def test_none_where_the_goal_cannot_be_come_to(self):
        for net, start, goal in (((2, ()), 0, 1), (NET, 3, 0), (NET, 0, 4), (NET, 4, 0), ((7, ()), 6, 0)):
            self.told(net, start, goal, [])

    def test_roads_side_by_side(self):
        pairs = [(5, 5), (5, 4), (4, 6), (4, 6), (9, 0), (1, 99), (9, 1), (2, 98), (2, 97), (5, 4)]
        net = (2, tuple((0, 1, *pair) for pair in pairs))
        self.told(net, 0, 1, [(1, 99, (5,)), (2, 97, (8,)), (4, 6, (2,)), (5, 4, (1,)), (9, 0, (4,))])

    def test_each_of_many(self):
        # No road is beaten by another one.
        net = (2, tuple((0, 1, 1 + at, 60 - at) for at in range(30)))
        self.told(net, 0, 1, [(1 + at, 60 - at, (at,)) for at in range(30)])
        # Costs are digits: each way has a pair of its own, and none beats another one.
        net = (7, tuple((at, at + 1, 1 + 2 ** at * turn, 2 ** at * (1 - turn)) for at in range(6) for turn in (0, 1)))
        told = front_of(net, 0, 6)
        self.assertEqual(len(told), 64)
        self.told(net, 0, 6, front_reckoned(net, 0, 6))

    def test_against_all_simple_ways(self):
        longest = 0
        for net in nets():
            for start, goal in itertools.product(range(net[0]), repeat=2):
                due = front_reckoned(net, start, goal)
                longest = max(longest, len(due))
                self.told(net, start, goal, due)
        self.assertGreater(longest, 4)

    def test_against_walks_that_are_not_simple(self):
        for net in (FORK, STILL, LIKE, timed_net(4, 4, 7, 3, 2)):
            for start, goal in itertools.product(range(net[0]), repeat=2):
                walks = all_walks(net, start, goal, 12)
                told = front_of(net, start, goal)
                for walk in walks:
                    pair = (cost(net, walk), time(net, walk))
                    self.assertTrue(any(row[:2] == pair or beats(row[:2], pair) for row in told))

    def test_great_nets(self):
        for seed in range(12):
            net = timed_net(seed, 10, 24 + seed % 7, (9, 99)[seed % 2], 100)
            self.told(net, 0, 9 - seed % 3, front_reckoned(net, 0, 9 - seed % 3))

    def test_a_new_list_each_time(self):
        for start, goal in ((0, 3), (2, 2), (0, 1)):
            first = front_of(FORK, start, goal)
            kept = list(first)
            first.append("more")
            first.reverse()
            self.assertEqual(front_of(FORK, start, goal), kept)
            self.assertIsNot(front_of(FORK, start, goal), front_of(FORK, start, goal))
        self.assertIsNot(front_of(NET, 3, 0), front_of(NET, 3, 0))


class Within(unittest.TestCase):
    def told(self, due, net, start, goal, most):
        before = repr((net, start, goal, most))
        told = within(net, start, goal, most)
        self.assertEqual(told, due, before)
        self.assertIs(type(told), type(due))
        self.assertEqual(repr((net, start, goal, most)), before)

    def test_by_hand(self):
        for most, due in ((0, (3, 4)), (1, (3, 4)), (4, (3, 4)), (5, (0, 4)), (9, (0, 4)), (10, (0, 1, 2)),
                          (11, (0, 1, 2)), (10 ** 29, (0, 1, 2))):
            self.told(due, FORK, 0, 3, most)
        for most in (0, 102):
            self.told(None, NET, 0, 3, most)
        self.told((0, 1, 4), NET, 0, 3, 103)
        self.told((0, 1, 4), NET, 0, 3, 107)
        self.told((3, 1, 4), NET, 0, 3, 108)

    def test_of_several_the_one_of_least_time_then_the_least(self):
        net = (2, ((0, 1, 5, 9), (0, 1, 5, 7), (0, 1, 5, 7), (0, 1, 6, 1), (0, 1, 5, 8)))
        for most, due in ((0, None), (1, (3,)), (6, (3,)), (7, (1,)), (8, (1,)), (9, (1,)), (99, (1,))):
            self.told(due, net, 0, 1, most)

    def test_start_and_goal_one(self):
        for net in (FORK, NET, (1, ())):
            for place in range(net[0]):
                for most in (0, 1, 10 ** 29):
                    self.told((), net, place, place, most)

    def test_none_where_the_goal_cannot_be_come_to(self):
        for net, start, goal in (((2, ()), 0, 1), (NET, 3, 0), (NET, 0, 4)):
            for most in (0, 99, 10 ** 29):
                self.told(None, net, start, goal, most)

    def test_against_all_simple_ways(self):
        seen = [0, 0]
        for net in nets():
            for start, goal in ((0, net[0] - 1), (net[0] - 1, 0), (net[0] // 2, 0)):
                ways = all_simple(net, start, goal)
                times = {time(net, way) for way in ways[:30]}
                for most in sorted({0, 500, *times, *(took - 1 for took in times if took)}):
                    let = [(cost(net, way), time(net, way), way) for way in ways if time(net, way) <= most]
                    self.told(min(let)[2] if let else None, net, start, goal, most)
                    seen[not let] += 1
        self.assertGreater(min(seen), 200, seen)


class Fences(unittest.TestCase):
    def looked(self, due, net, start, thing):
        before = repr((net, start, thing))
        self.assertIs(is_fence(net, start, thing), due, before[:500])
        self.assertEqual(repr((net, start, thing)), before)

    def alike(self, net, start, thing):
        due = is_fenced(net, start, thing)
        self.looked(due, net, start, thing)
        return due

    def test_the_least_by_hand(self):
        self.assertEqual(fence_of(FORK, 0), (((0, 0),), ((1, 5), (5, 0)), ((2, 6), (6, 1)), ((3, 10), (6, 5), (10, 0))))
        self.assertEqual(fence_of(FORK, 3), (((1, 0),), ((2, 5), (6, 0)), ((3, 6), (7, 1)), ((0, 0),)))
        self.assertEqual(fence_of((1, ()), 0), (((0, 0),),))
        self.assertEqual(fence_of((3, ()), 1), ((), ((0, 0),), ()))
        self.assertEqual(fence_of(NET, 3), ((), (), (), ((0, 0),), ()))

    def test_the_least_against_all_simple_ways(self):
        for net in nets():
            for start in range(net[0]):
                before = repr(net)
                told = fence_of(net, start)
                self.assertEqual(told, fence_reckoned(net, start), (net, start))
                self.assertIs(type(told), tuple)
                for pairs in told:
                    self.assertIs(type(pairs), tuple)
                    for pair in pairs:
                        self.assertEqual([type(part) for part in (pair, *pair)], [tuple, int, int])
                self.looked(True, net, start, told)
                self.assertEqual(repr(net), before)

    def test_its_pairs_are_the_fronts(self):
        for seed in range(20):
            net = timed_net(seed, 10, 30, 99, 100)
            fence = fence_of(net, 0)
            for place in range(10):
                self.assertEqual([row[:2] for row in front_of(net, 0, place)], list(fence[place]))

    def test_all_nought(self):
        for net in nets():
            for start in range(net[0]):
                self.looked(True, net, start, (((0, 0),),) * net[0])

    def test_without_the_pair_of_the_start(self):
        for net in nets():
            for start in range(net[0]):
                fence = fence_of(net, start)
                for odd in ((), ((0, 1),), ((1, 0),), ((False, 0),), ((0, False),), ((0, 0, 0),), ((0,),), ([0, 0],),
                            (0, 0), [(0, 0)], None, ((-1, 0), (0, 0)), ((-1, -1),), ((0, 0), (0, 0)), "00"):
                    self.looked(False, net, start, with_part(fence, start, odd))

    def test_pairs_that_are_less(self):
        net, fence = FORK, fence_of(FORK, 0)
        self.looked(True, net, 0, with_part(fence, 3, ((3, 9), (6, 5), (10, 0))))
        self.looked(True, net, 0, with_part(fence, 3, ((0, 0),)))
        self.looked(True, net, 0, with_part(fence, 3, ((3, 5), (10, 0))))
        # What is less at 2 wants less at 3.
        self.looked(False, net, 0, with_part(fence, 2, ((1, 6), (6, 1))))
        self.looked(True, net, 0, with_part(with_part(fence, 2, ((1, 6), (6, 1))), 3, ((2, 10), (6, 5), (10, 0))))

    def test_pairs_more(self):
        fence = fence_of(FORK, 0)
        # One that is beaten, of which nothing else hangs; one at 2 that leads to one at 3 that is there or beaten.
        self.looked(True, FORK, 0, with_part(fence, 3, ((3, 10), (6, 5), (7, 7), (10, 0))))
        self.looked(True, FORK, 0, with_part(fence, 3, ((3, 10), (3, 11), (6, 5), (10, 0), (10, 5))))
        self.looked(True, FORK, 0, with_part(fence, 2, ((2, 6), (6, 1), (50, 50))))
        self.looked(True, FORK, 0, with_part(fence, 0, ((0, 0), (7, 7))))
        # One that leads to nothing that is there.
        self.looked(False, FORK, 0, with_part(fence, 2, ((2, 6), (3, 0), (6, 1))))
        # For a place that cannot be come to.
        self.looked(True, NET, 3, ((), (), (), ((0, 0),), ((4, 4),)))
        self.looked(False, NET, 3, ((), ((4, 4),), (), ((0, 0),), ()))
        self.looked(True, NET, 3, (((15, 5),), ((4, 4),), ((8, 4),), ((0, 0),), ()))

    def test_a_pair_fewer_or_greater(self):
        for net in nets():
            for start in range(min(net[0], 3)):
                fence = fence_of(net, start)
                for place, pairs in enumerate(fence):
                    for at, (price, took) in enumerate(pairs):
                        self.looked(False, net, start, with_part(fence, place, pairs[:at] + pairs[at + 1:]))
                        for pair in ((price + 1, took), (price, took + 1)):
                            self.looked(False, net, start, with_part(fence, place, with_part(pairs, at, pair)))
                        for pair in ((price - 1, took), (price, took - 1)):
                            self.alike(net, start, with_part(fence, place, with_part(pairs, at, pair)))

    def test_not_rising(self):
        fence = fence_of(FORK, 0)
        for place in (1, 2, 3):
            pairs = fence[place]
            self.looked(False, FORK, 0, with_part(fence, place, pairs[::-1]))
            self.looked(False, FORK, 0, with_part(fence, place, (pairs[0], *pairs)))
            self.looked(False, FORK, 0, with_part(fence, place, (*pairs, pairs[-1])))
            self.looked(False, FORK, 0, with_part(fence, place, (*pairs, (0, 0))))

    def test_a_place_more_or_fewer_and_lists(self):
        for net in (FORK, NET, (1, ()), (10, ())):
            fence = fence_of(net, 0)
            for odd in (fence[:-1], fence[1:], (*fence, ()), (*fence, ((0, 0),)), ((), *fence), list(fence), (),
                        fence * 2, dict(enumerate(fence)), (fence,)):
                self.looked(False, net, 0, odd)
            for place, pairs in enumerate(fence):
                self.looked(False, net, 0, with_part(fence, place, list(pairs)))
                self.looked(False, net, 0, with_part(fence, place, None))
                if pairs:
                    self.looked(False, net, 0, with_part(fence, place, tuple(list(pair) for pair in pairs)))

    def test_below_nought_and_truths(self):
        net = (2, ((0, 1, 1, 1),))
        self.looked(True, net, 0, (((0, 0),), ((1, 1),)))
        for pair in ((True, 1), (1, True), (-1, 1), (1, -1), ("1", 1), (1, None), (1,), (1, 1, 1), [1, 1], (1, (1,)),
                     1):
            self.looked(False, net, 0, (((0, 0),), (pair,)))
            self.looked(False, (2, ()), 0, (((0, 0),), (pair,)))
        for pair in ((0, 0), (1, 0), (0, 1)):
            self.looked(True, net, 0, (((0, 0),), (pair,)))
        for pair in ((2, 0), (0, 2), (2, 2), (10 ** 29, 10 ** 29)):
            self.looked(False, net, 0, (((0, 0),), (pair,)))
            self.looked(True, (2, ()), 0, (((0, 0),), (pair,)))

    def test_variants(self):
        for net in (FORK, STILL, (2, ((0, 1, 1, 1),)), NET):
            seen = [0, 0]
            for other in variants(fence_of(net, 0), odd_things()):
                seen[self.alike(net, 0, other)] += 1
            self.assertGreater(seen[0], 300)

    def test_drawn_fences(self):
        seen = [0, 0]
        for seed in range(600):
            dice = Dice(seed)
            net = timed_net(seed, 3 + seed % 3, 5 + seed % 4, 4, 4)
            fence = [list(pairs) for pairs in fence_of(net, 0)]
            for _ in range(1 + dice.below(4)):
                pairs = fence[dice.below(net[0])]
                if pairs and dice.below(2):
                    at = dice.below(len(pairs))
                    pairs[at] = (max(0, pairs[at][0] - dice.below(3)), max(0, pairs[at][1] - dice.below(3)))
                else:
                    pairs.append((dice.below(12), dice.below(12)))
            thing = tuple(tuple(sorted(set(pairs))) for pairs in fence)
            seen[self.alike(net, 0, thing)] += 1
        self.assertGreater(min(seen), 100, seen)

    def test_things_of_whatever_kind(self):
        for odd in (*odd_things(), (), 0, 1, "((0, 0),)"):
            for net in (FORK, (1, ()), (2, ())):
                self.looked(False, net, 0, odd)
                self.looked(False, net, 0, (odd,) * net[0])


class Held(unittest.TestCase):
    def told(self, due, net, start, goal, front, fence):
        before = repr((net, start, goal, front, fence))
        self.assertIs(front_holds(net, start, goal, front, fence), due, before[:500])
        self.assertEqual(repr((net, start, goal, front, fence)), before)

    def alike(self, net, start, goal, front, fence):
        due = front_held(net, start, goal, front, fence)
        self.told(due, net, start, goal, front, fence)
        return due

    def test_the_front_and_the_least_fence(self):
        for net in nets():
            for start, goal in itertools.product(range(net[0]), repeat=2):
                self.told(True, net, start, goal, front_of(net, start, goal), fence_of(net, start))

    def test_a_row_more_fewer_twice_or_turned_about(self):
        for net in nets():
            for start, goal in itertools.product(range(min(3, net[0])), range(net[0])):
                front, fence = front_of(net, start, goal), fence_of(net, start)
                for at, row in enumerate(front):
                    self.told(False, net, start, goal, front[:at] + front[at + 1:], fence)
                    self.told(False, net, start, goal, front[:at] + [row] + front[at:], fence)
                if len(front) > 1:
                    self.told(False, net, start, goal, front[::-1], fence)
                    self.told(False, net, start, goal, front[1:] + front[:1], fence)
                self.told(False, net, start, goal, tuple(front), fence)
                self.told(False, net, start, goal, front * 2 or [()], fence)
                for way in all_simple(net, start, goal)[:10]:
                    row = (cost(net, way), time(net, way), way)
                    if row[:2] not in [other[:2] for other in front]:
                        self.told(False, net, start, goal, sorted([*front, row]), fence)

    def test_another_way_that_has_the_pair(self):
        fence = fence_of(LIKE, 0)
        for way in ((0, 3), (1, 2), (4,), (5, 2)):
            self.told(True, LIKE, 0, 3, [(4, 4, way)], fence)
        for way in ((6,), (7,), (0,), (0, 2), (), (8,), (0, 3, 8, 4), (10,), (-6,), [4], 4, None, "4", (True, 2)):
            self.told(False, LIKE, 0, 3, [(4, 4, way)], fence)
        # Two alike, each by another way.
        self.told(False, LIKE, 0, 3, [(4, 4, (0, 3)), (4, 4, (1, 2))], fence)
        self.told(False, LIKE, 0, 3, [(4, 4, (4,)), (8, 4, (6,))], fence)
        self.told(False, LIKE, 0, 3, [(4, 4, (4,)), (4, 8, (7,))], fence)

    def test_a_way_that_has_not_its_pair(self):
        fence, front = fence_of(FORK, 0), front_of(FORK, 0, 3)
        self.told(True, FORK, 0, 3, front, fence)
        for at, row in enumerate(front):
            for odd in ((row[0] + 1, *row[1:]), (row[0] - 1, *row[1:]), (row[0], row[1] + 1, row[2]),
                        (row[0], row[1] - 1, row[2]), (*row[:2], front[at - 1][2]), (*row[:2], ()), (*row[:2], (0,)),
                        (*row[:2], (0, 6, 3, 4)), (*row, ()), row[:2], list(row), row[::-1], (*row[:2], list(row[2])),
                        (*row[:2], row[2][:-1]), None, (), (str(row[0]), *row[1:])):
                self.told(False, FORK, 0, 3, front[:at] + [odd] + front[at + 1:], fence)
        # From elsewhere, or to there.
        self.told(False, FORK, 1, 3, front, fence_of(FORK, 1))
        self.told(False, FORK, 0, 2, front, fence)

    def test_truths_are_no_numbers(self):
        net = (2, ((0, 1, 1, 1), (1, 0, 1, 0)))
        fence = fence_of(net, 0)
        self.told(True, net, 0, 1, [(1, 1, (0,))], fence)
        for odd in ((True, 1, (0,)), (1, True, (0,)), (1, 1, (False,))):
            self.told(False, net, 0, 1, [odd], fence)
        self.told(True, net, 0, 0, [(0, 0, ())], fence)
        for odd in ((False, 0, ()), (0, False, ()), (0, 0, []), (0, 0, (0, 1)), (2, 1, (0, 1))):
            self.told(False, net, 0, 0, [odd], fence)
        self.told(False, net, 0, 0, [(0, 0, ()), (2, 1, (0, 1))], fence)

    def test_nothing_to_come_to(self):
        for net, start, goal in (((2, ()), 0, 1), (NET, 3, 0), (NET, 0, 4)):
            fence = fence_of(net, start)
            self.told(True, net, start, goal, [], fence)
            self.told(False, net, start, goal, (), fence)
            self.told(False, net, start, goal, None, fence)
            # A fence with a pair where no way leads shows no front.
            self.told(False, net, start, goal, [], (((0, 0),),) * net[0])
        self.told(False, NET, 0, 3, [], fence_of(NET, 0))

    def test_another_fence_that_shows_it(self):
        front, fence = front_of(FORK, 0, 3), fence_of(FORK, 0)
        for pairs in (((3, 10), (6, 5), (7, 7), (10, 0)), ((3, 10), (3, 11), (6, 5), (10, 0), (50, 50)),
                      ((3, 10), (6, 5), (10, 0), (11, 0))):
            self.told(True, FORK, 0, 3, front, with_part(fence, 3, pairs))
        # Less elsewhere, as long as that does not come to the goal.
        self.told(True, FORK, 0, 3, front, with_part(fence, 2, ((2, 6), (6, 1), (50, 0))))
        self.told(True, FORK, 0, 2, front_of(FORK, 0, 2), with_part(fence, 3, ((0, 0),)))
        # A fence that shows no front, or something that is no fence.
        for pairs in (((0, 0),), ((3, 9), (6, 5), (10, 0)), ((3, 10), (5, 8), (6, 5), (10, 0)),
                      ((2, 50), (3, 10), (6, 5), (10, 0)),
                      ((3, 10), (6, 4), (10, 0)), ((3, 10), (6, 5)), (), ((6, 5), (10, 0)), [(3, 10), (6, 5), (10, 0)]):
            self.told(False, FORK, 0, 3, front, with_part(fence, 3, pairs))
        self.told(False, FORK, 0, 3, front, fence_of(FORK, 1))
        self.told(False, FORK, 0, 3, front, list(fence))
        self.told(False, FORK, 0, 3, front, fence[:-1])

    def test_variants(self):
        for net, start, goal in ((FORK, 0, 3), (STILL, 0, 3), (NET, 0, 1), (NET, 3, 3)):
            front, fence = front_of(net, start, goal), fence_of(net, start)
            seen = [0, 0]
            for other in variants(tuple(front), odd_things()):
                seen[self.alike(net, start, goal, list(other) if type(other) is tuple else other, fence)] += 1
                self.alike(net, start, goal, other, fence)
            for other in variants(fence, [(), None, ((0, 0),)]):
                seen[self.alike(net, start, goal, front, other)] += 1
            self.assertGreater(seen[0], 300, seen)

    def test_drawn_fences_and_fronts(self):
        seen = [0, 0]
        for seed in range(600):
            dice = Dice(seed)
            net = timed_net(seed, 3 + seed % 3, 5 + seed % 4, 4, 4)
            goal = net[0] - 1
            front, fence = front_of(net, 0, goal), [list(pairs) for pairs in fence_of(net, 0)]
            for _ in range(dice.below(3)):
                fence[dice.below(net[0])].append((dice.below(14), dice.below(14)))
            if not dice.below(4):
                front.pop(dice.below(len(front)))
            thing = tuple(tuple(sorted(set(pairs))) for pairs in fence)
            seen[self.alike(net, 0, goal, front, thing)] += 1
        self.assertGreater(min(seen), 100, seen)

    def test_things_of_whatever_kind_for_either(self):
        front, fence = front_of(FORK, 0, 3), fence_of(FORK, 0)
        for odd in (*odd_things(), (), 0, [()], [None], [[]]):
            self.told(False, FORK, 0, 3, odd, fence)
            self.told(False, FORK, 0, 3, [odd], fence)
            self.told(False, FORK, 0, 3, front, odd)
            self.told(False, FORK, 0, 3, odd, odd)
        self.told(False, FORK, 0, 3, fence, front)
        self.told(False, FORK, 0, 3, front, front)
        self.told(False, FORK, 0, 3, fence, fence)


class Refused(unittest.TestCase):
    NETS = (*odd_things(), (), 5, list(NET), (11, ()), (True, ()))

    def refused(self, kind, asked, *arguments):
        before = repr(arguments)
        with self.assertRaises(kind, msg=before[:300]) as caught:
            asked(*arguments)
        self.assertIs(type(caught.exception), kind)
        self.assertEqual(repr(arguments), before)

    def test_no_net_whatever_stands_behind_it(self):
        for odd in self.NETS:
            for place, last in ((0, 0), (-1, None), (None, ()), (odd, odd)):
                self.refused(NoNet, front_of, odd, place, place)
                self.refused(NoNet, within, odd, place, place, last)
                self.refused(NoNet, fence_of, odd, place)
                self.refused(NoNet, is_fence, odd, place, last)
                self.refused(NoNet, front_holds, odd, place, place, last, last)

    def test_then_no_place_whatever_stands_behind_it(self):
        for net in (FORK, (1, ()), (10, ())):
            for odd in (*odd_things(), (), (0,), net[0], net[0] + 1, -net[0]):
                self.refused(NoPlace, fence_of, net, odd)
                for last in (0, -1, None, [], odd):
                    self.refused(NoPlace, is_fence, net, odd, last)
                    for start, goal in ((odd, 0), (0, odd), (odd, odd)):
                        self.refused(NoPlace, front_of, net, start, goal)
                        self.refused(NoPlace, within, net, start, goal, last)
                        self.refused(NoPlace, front_holds, net, start, goal, last, last)

    def test_then_no_time(self):
        for start, goal in ((0, 3), (2, 2), (3, 1)):
            for odd in (-1, -(10 ** 29), True, False, None, "", "0", "5", [], [0], (), (0,), {}, {0: 1}):
                self.refused(NoTime, within, FORK, start, goal, odd)
            for odd in odd_things():
                if type(odd) is not int or odd < 0:
                    self.refused(NoTime, within, FORK, start, goal, odd)

    def test_several_at_once(self):
        rows = [("net", FORK, ((), None, [4, ()]), NoNet), ("start", 0, (4, True, "0"), NoPlace)]
        check_refusals(self, fence_of, rows)
        for thing in ((), None, fence_of(FORK, 0)):
            check_refusals(self, lambda **handed: is_fence(thing=thing, **handed), rows)
        rows += [("goal", 3, (-1, None, [3]), NoPlace)]
        check_refusals(self, front_of, rows)
        for front, fence in itertools.product(([], None, front_of(FORK, 0, 3)), ((), None, fence_of(FORK, 0))):
            check_refusals(self, lambda **handed: front_holds(front=front, fence=fence, **handed), rows)
        check_refusals(self, within, rows + [("most", 5, (-1, True, None, "5", [5]), NoTime)])


class Asking(unittest.TestCase):
    def test_names_of_the_arguments(self):
        self.assertEqual(parameters(front_of), (["net", "start", "goal"], [], {}))
        self.assertEqual(parameters(within), (["net", "start", "goal", "most"], [], {}))
        self.assertEqual(parameters(fence_of), (["net", "start"], [], {}))
        self.assertEqual(parameters(is_fence), (["net", "start", "thing"], [], {}))
        self.assertEqual(parameters(front_holds), (["net", "start", "goal", "front", "fence"], [], {}))

    def test_by_names_in_another_order(self):
        front, fence = front_of(goal=3, start=0, net=FORK), fence_of(start=0, net=FORK)
        self.assertEqual(front, front_of(FORK, 0, 3))
        self.assertEqual(fence, fence_of(FORK, 0))
        self.assertEqual(within(most=5, goal=3, start=0, net=FORK), (0, 4))
        self.assertIs(is_fence(thing=fence, start=0, net=FORK), True)
        self.assertIs(front_holds(fence=fence, front=front, goal=3, start=0, net=FORK), True)
        self.assertIs(front_holds(fence=fence, front=front, goal=2, start=0, net=FORK), False)

    def test_asked_twice_the_same_is_told(self):
        net = timed_net(8, 7, 12, 9, 9)
        first = front_of(net, 0, 5), fence_of(net, 0), within(net, 0, 5, 6)
        front_of(FORK, 0, 3), fence_of(FORK, 0)
        with self.assertRaises(NoTime):
            within(net, 0, 5, -1)
        self.assertEqual((front_of(net, 0, 5), fence_of(net, 0), within(net, 0, 5, 6)), first)
        again = copy.deepcopy(net)
        self.assertEqual((front_of(again, 0, 5), fence_of(again, 0), within(again, 0, 5, 6)), first)
        for _ in range(2):
            self.assertIs(is_fence(net, 0, first[1]), True)
            self.assertIs(front_holds(net, 0, 5, first[0], first[1]), True)

    def test_nothing_hangs_on_what_was_handed_in_earlier(self):
        front, fence = front_of(FORK, 0, 3), fence_of(FORK, 0)
        self.assertIs(front_holds(FORK, 0, 3, front, fence), True)
        row = front.pop()
        self.assertIs(front_holds(FORK, 0, 3, front, fence), False)
        front.append(row)
        self.assertIs(front_holds(FORK, 0, 3, front, fence), True)
        self.assertEqual(front_of(FORK, 0, 3), front)


if __name__ == "__main__":
    unittest.main()
