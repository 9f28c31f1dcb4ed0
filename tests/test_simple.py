"""Point 30, and points 2, 3, 4 as they bear on it."""

import copy
import unittest

from reckoning import all_simple
from samples import NET, made_net, made_nets, odd_things, parameters, ringed_net
from waysranked.errors import NoMany, NoNet, NoPlace
from waysranked.nets import is_simple, way_of
from waysranked.simple import least_simple

# From 0 to 3 ways of like costs: roads 0 and 1 are alike, and 3 and 7; 4 costs what 2 and 3 cost; 5 leads back.
LIKE = (
    4,
    ((0, 1, 1, 0), (0, 1, 1, 0), (1, 2, 1, 0), (2, 3, 1, 0), (1, 3, 2, 0), (3, 0, 1, 0), (0, 3, 3, 0), (2, 3, 1, 0)),
)
# Three roads from each place to the next one: 3 ** 9 simple ways from 0 to 9, of costs that are often alike.
LADDER = (10, tuple((at, at + 1, 1 + turn, turn) for at in range(9) for turn in range(3)))
# A least way that a step back to a place where it was would make less.
BACK = (5, ((0, 1, 1, 0), (1, 2, 1, 0), (2, 1, 1, 0), (1, 4, 1, 0), (2, 3, 9, 0), (3, 4, 9, 0)))


class Least(unittest.TestCase):
    def told(self, net, start, goal, many, due):
        before = repr((net, start, goal, many))
        told = least_simple(net, start, goal, many=many)
        self.assertIs(type(told), list)
        self.assertEqual(told, due, before)
        for way in told:
            self.assertIs(type(way), tuple)
            self.assertTrue(all(type(road) is int for road in way))
            self.assertIs(is_simple(net, start, way), True)
            self.assertEqual(way_of(net, start, way)[0], goal)
        self.assertEqual(repr((net, start, goal, many)), before)

    def test_ordinary_ones(self):
        self.told(NET, 0, 3, 1, [(3, 1, 4)])
        self.told(NET, 0, 3, 2, [(3, 1, 4), (0, 1, 4)])
        self.told(NET, 1, 0, 3, [(1, 2), (5,)])
        self.told(BACK, 0, 4, 12, [(0, 3), (0, 1, 4, 5)])

    def test_ways_of_like_costs_rise_as_tuples_compare(self):
        due = [(0, 2, 3), (0, 2, 7), (0, 4), (1, 2, 3), (1, 2, 7), (1, 4), (6,)]
        for many in range(1, 13):
            self.told(LIKE, 0, 3, many, due[:many])

    def test_the_lesser_cost_goes_ahead_of_the_lesser_tuple(self):
        net = (3, ((0, 1, 9, 0), (0, 2, 1, 0), (2, 1, 1, 0), (2, 1, 8, 0), (0, 1, 2, 0)))
        self.told(net, 0, 1, 12, [(1, 2), (4,), (0,), (1, 3)])

    def test_left_out_it_is_three(self):
        self.assertEqual(least_simple(LIKE, 0, 3), [(0, 2, 3), (0, 2, 7), (0, 4)])
        self.assertEqual(least_simple(NET, 0, 3), [(3, 1, 4), (0, 1, 4)])
        self.assertEqual(least_simple(NET, 2, 2), [()])
        self.assertEqual(least_simple(LADDER, 0, 9), all_simple(LADDER, 0, 9)[:3])

    def test_fewer_where_there_are_no_more(self):
        for many in range(2, 13):
            self.told(NET, 0, 3, many, [(3, 1, 4), (0, 1, 4)])
        self.told(LIKE, 3, 0, 12, [(5,)])

    def test_start_and_goal_one(self):
        for net in (NET, LIKE, LADDER, (1, ()), (10, ())):
            for place in range(net[0]):
                for many in (1, 2, 12):
                    self.told(net, place, place, many, [()])

    def test_none_where_the_goal_cannot_be_come_to(self):
        for many in (1, 3, 12):
            for net, start, goal in ((NET, 3, 0), (NET, 0, 4), (NET, 4, 0), ((2, ()), 0, 1), (LADDER, 9, 0)):
                self.told(net, start, goal, many, [])

    def test_through_all_ten_places(self):
        due = all_simple(LADDER, 0, 9)
        self.assertEqual(len(due), 3 ** 9)
        for many in (1, 2, 11, 12):
            self.told(LADDER, 0, 9, many, due[:many])

    def test_many_roads_between_two_places(self):
        net = (2, tuple((0, 1, 5 - at % 3, at) for at in range(30)))
        self.told(net, 0, 1, 12, [(at,) for at in (*range(2, 30, 3), 1, 4)])

    def test_against_all_simple_ways(self):
        for net in made_nets():
            if net[0] < 8:
                for start in range(net[0]):
                    for goal in range(net[0]):
                        due = all_simple(net, start, goal)
                        for many in (1, 3, 12):
                            self.told(net, start, goal, many, due[:many])

    def test_against_all_simple_ways_of_great_nets(self):
        for seed in range(60):
            net = ringed_net(seed, 8 + seed % 3, 30 - seed % 7, (2, 4, 99)[seed % 3])
            start, goal = seed % net[0], seed * 3 % net[0]
            due = all_simple(net, start, goal)
            for many in (1, 5, 12):
                self.told(net, start, goal, many, due[:many])

    def test_a_new_list_each_time(self):
        for start, goal in ((0, 3), (2, 2), (3, 0)):
            first = least_simple(LIKE, start, goal, many=12)
            kept = list(first)
            first.append("more")
            first.reverse()
            self.assertEqual(least_simple(LIKE, start, goal, many=12), kept)
            self.assertIsNot(least_simple(LIKE, start, goal), least_simple(LIKE, start, goal))


class Refused(unittest.TestCase):
    def refused(self, kind, net, start, goal, many):
        before = repr((net, start, goal, many))
        with self.assertRaises(kind, msg=before[:300]) as caught:
            least_simple(net, start, goal, many=many)
        self.assertIs(type(caught.exception), kind)
        self.assertEqual(repr((net, start, goal, many)), before)

    def test_no_net_whatever_stands_behind_it(self):
        for odd in (*odd_things(), (), 5, list(NET), (11, ()), (True, ())):
            for place in (0, -1, None, True, odd):
                for many in (1, 0, None, odd):
                    self.refused(NoNet, odd, place, place, many)

    def test_then_no_place_whatever_stands_behind_it(self):
        for net in (NET, (1, ()), (10, ())):
            for odd in (*odd_things(), (), (0,), net[0], net[0] + 1, -net[0]):
                for many in (1, 0, None, odd):
                    self.refused(NoPlace, net, odd, 0, many)
                    self.refused(NoPlace, net, 0, odd, many)
                    self.refused(NoPlace, net, odd, odd, many)

    def test_then_no_many(self):
        for start, goal in ((0, 3), (3, 0), (2, 2)):
            for odd in (*odd_things(), 0, 13, 14, -1, 40, True, False, None, "3", "", (3,), [3]):
                self.refused(NoMany, NET, start, goal, odd)


class Asking(unittest.TestCase):
    def test_names_of_the_arguments(self):
        self.assertEqual(parameters(least_simple), (["net", "start", "goal"], ["many"], {"many": 3}))
        with self.assertRaises(TypeError):
            least_simple(NET, 0, 3, 3)

    def test_by_names_in_another_order(self):
        self.assertEqual(least_simple(many=1, goal=3, start=0, net=LIKE), [(0, 2, 3)])
        self.assertEqual(least_simple(goal=3, start=0, net=LIKE), [(0, 2, 3), (0, 2, 7), (0, 4)])
        with self.assertRaises(NoNet):
            least_simple(many=None, goal=None, start=None, net=None)
        with self.assertRaises(NoPlace):
            least_simple(many=None, goal=None, start=0, net=NET)

    def test_asked_twice_the_same_is_told(self):
        net = made_net(4, 7, 30, 3)
        first = least_simple(net, 0, 6, many=12)
        with self.assertRaises(NoMany):
            least_simple(net, 0, 6, many=13)
        least_simple(LIKE, 0, 3)
        self.assertEqual(least_simple(net, 0, 6, many=12), first)
        self.assertEqual(least_simple(copy.deepcopy(net), 0, 6, many=12), first)


if __name__ == "__main__":
    unittest.main()
