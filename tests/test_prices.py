"""Point 12, and points 2, 3, 4 as they bear on prices."""

import copy
import itertools
import unittest

from reckoning import all_simple, are_priced, cost, greatest
from samples import NET, made_net, made_nets, odd_things, parameters, with_part
from waysranked.errors import NoNet, NoPlace, NoShut
from waysranked.prices import are_prices, prices_of

# Two roads lead from 0 to 1 and from 1 to 3; 4 leads to 3 alone; no road leads from 3 but to 5; 5 leads nowhere.
FORK = (
    6,
    (
        (0, 1, 4, 0), (0, 1, 3, 0), (0, 2, 1, 0), (2, 3, 9, 0), (1, 3, 5, 0), (1, 3, 2, 0), (4, 3, 7, 0), (3, 5, 1, 0),
        (2, 1, 1, 0),
    ),
)


def shuts(net, goal):
    """None shut, each place alone, some places, all but the goal."""
    others = [place for place in range(net[0]) if place != goal]
    told = [(), tuple(others), tuple(others[::2]), tuple(others[1::3]), tuple(others[:-1])]
    return list(dict.fromkeys(told + [(place,) for place in others]))


class Greatest(unittest.TestCase):
    def told(self, net, goal, shut, due):
        before = repr((net, goal, shut))
        told = prices_of(net, goal, shut=shut)
        self.assertIs(type(told), tuple)
        self.assertEqual(told, due, before)
        self.assertTrue(all(price is None or type(price) is int for price in told), before)
        self.assertIs(are_prices(net, goal, told, shut=shut), True, before)
        self.assertEqual(repr((net, goal, shut)), before)

    def test_an_ordinary_net(self):
        self.told(NET, 3, (), (8, 6, 1, 0, None))
        self.told(NET, 0, (), (0, 12, 7, None, None))
        self.told(NET, 1, (), (2, 0, 9, None, None))
        self.told(NET, 4, (), (None, None, None, None, 0))

    def test_the_least_of_several_roads_and_ways(self):
        self.told(FORK, 3, (), (4, 2, 3, 0, 7, None))
        self.told(FORK, 5, (), (5, 3, 4, 1, 8, 0))
        self.told(FORK, 1, (), (2, 0, 1, None, None, None))

    def test_shut_places(self):
        self.told(FORK, 3, (2,), (5, 2, None, 0, 7, None))
        self.told(FORK, 3, (1,), (10, None, 9, 0, 7, None))
        self.told(FORK, 3, (1, 2), (None, None, None, 0, 7, None))
        self.told(FORK, 3, (0,), (None, 2, 3, 0, 7, None))
        self.told(FORK, 3, (5,), (4, 2, 3, 0, 7, None))
        self.told(FORK, 3, (0, 1, 2, 4, 5), (None, None, None, 0, None, None))
        self.told(FORK, 5, (3,), (None, None, None, None, None, 0))

    def test_one_place(self):
        self.told((1, ()), 0, (), (0,))

    def test_no_roads(self):
        for places in range(1, 11):
            for goal in range(places):
                self.told((places, ()), goal, (), with_part((None,) * places, goal, 0))

    def test_a_way_along_all_places(self):
        # Whichever way round the roads stand, the price of the furthest place hangs on all others.
        for places in range(2, 11):
            roads = tuple((at, at + 1, 99, 0) for at in range(places - 1))
            due = tuple(99 * (places - 1 - at) for at in range(places))
            self.told((places, roads), places - 1, (), due)
            self.told((places, roads[::-1]), places - 1, (), due)

    def test_against_a_reckoning(self):
        for net in made_nets():
            for goal in range(net[0]):
                for shut in shuts(net, goal):
                    self.told(net, goal, shut, greatest(net, goal, shut))

    def test_against_all_simple_ways(self):
        for seed in range(20):
            net = made_net(seed, 5, 10, 9)
            for goal, start in itertools.permutations(range(5), 2):
                for shut in ((), *((place,) for place in range(5) if place not in (goal, start))):
                    ways = all_simple(net, start, goal, shut)
                    due = cost(net, ways[0]) if ways else None
                    self.assertEqual(prices_of(net, goal, shut=shut)[start], due, (net, goal, start, shut))

    def test_shut_may_be_left_out(self):
        for goal in range(FORK[0]):
            self.assertEqual(prices_of(FORK, goal), greatest(FORK, goal))


class Looked(unittest.TestCase):
    def told(self, due, net, goal, thing, shut=()):
        before = repr((net, goal, thing, shut))
        self.assertIs(are_prices(net, goal, thing, shut=shut), due, before[:300])
        if not shut:
            self.assertIs(are_prices(net, goal, thing), due, before[:300])
        self.assertEqual(repr((net, goal, thing, shut)), before)

    def test_the_greatest_ones(self):
        for net in made_nets():
            for goal in range(net[0]):
                for shut in shuts(net, goal):
                    self.told(True, net, goal, greatest(net, goal, shut), shut)

    def test_all_nought(self):
        for net in made_nets():
            for goal in range(net[0]):
                self.told(True, net, goal, (0,) * net[0])
                for shut in shuts(net, goal):
                    due = tuple(None if place in shut else 0 for place in range(net[0]))
                    self.told(True, net, goal, due, shut)

    def test_lesser_ones(self):
        self.told(True, FORK, 3, (3, 2, 3, 0, 7, None))
        self.told(True, FORK, 3, (3, 2, 2, 0, 7, None))
        # Less at place 2 alone makes what hangs on it too great.
        self.told(False, FORK, 3, (4, 2, 2, 0, 7, None))
        self.told(True, FORK, 3, (0, 0, 0, 0, 0, None))
        self.told(False, FORK, 3, (4, 1, 3, 0, 7, None))
        self.told(True, FORK, 3, (3, 1, 2, 0, 7, None))

    def test_a_number_where_no_way_leads_to_the_goal(self):
        for number in (0, 1, 500, 10 ** 29):
            self.told(True, FORK, 3, (4, 2, 3, 0, 7, number))
            self.told(True, NET, 3, (8, 6, 1, 0, number))
            self.told(True, (3, ()), 1, (number, 0, number))
            self.told(True, (3, ()), 1, (number, 0, None))
        # Each place from which a road leads to such a place needs a number then.
        self.told(False, FORK, 1, (2, 0, 1, None, None, 5))
        self.told(False, FORK, 1, (2, 0, 1, 6, None, 5))
        self.told(True, FORK, 1, (2, 0, 1, 6, 13, 5))
        self.told(False, FORK, 1, (2, 0, 1, 7, 13, 5))

    def test_one_number_too_great(self):
        for net in made_nets():
            for goal in range(net[0]):
                for shut in shuts(net, goal):
                    prices = greatest(net, goal, shut)
                    for place, price in enumerate(prices):
                        if price is not None:
                            self.told(False, net, goal, with_part(prices, place, price + 1), shut)
                            self.told(False, net, goal, with_part(prices, place, 10 ** 29), shut)

    def test_a_number_below_nought(self):
        for place in range(6):
            for number in (-1, -(10 ** 29)):
                self.told(False, FORK, 3, with_part((4, 2, 3, 0, 7, None), place, number))
                self.told(False, (6, ()), 3, with_part((None, None, None, 0, None, None), place, number))

    def test_none_for_a_place_with_a_road_to_a_place_with_a_number(self):
        for place in (0, 1, 2, 4):
            self.told(False, FORK, 3, with_part((4, 2, 3, 0, 7, None), place, None))
            self.told(False, FORK, 3, with_part((0,) * 6, place, None))
        self.told(True, FORK, 3, with_part((0,) * 6, 5, None))

    def test_the_price_of_the_goal(self):
        for odd in (1, -1, None, False, True, "0", (), [0], 99):
            self.told(False, (1, ()), 0, (odd,))
            self.told(False, (3, ()), 1, (0, odd, 0))
            self.told(False, FORK, 3, (4, 2, 3, odd, 7, None))
        self.told(True, (1, ()), 0, (0,))

    def test_a_number_for_a_shut_place(self):
        due = (None, 2, 3, 0, None, None)
        self.told(True, FORK, 3, due, (0, 4))
        for place in (0, 4):
            for number in (0, 1, 7, 10 ** 29, False):
                self.told(False, FORK, 3, with_part(due, place, number), (0, 4))
        self.told(False, FORK, 3, greatest(FORK, 3), (0, 4))

    def test_roads_at_shut_places_are_as_if_they_were_not_there(self):
        # 0 leads on through 1 and 2 alone, 4 straight to the goal.
        self.told(True, FORK, 3, (None, None, None, 0, 7, None), (1, 2))
        self.told(True, FORK, 3, (10 ** 29, None, None, 0, 7, None), (1, 2))
        self.told(False, FORK, 3, (None, None, None, 0, 8, None), (1, 2))
        self.told(False, FORK, 3, (None, None, None, 0, None, None), (1, 2))
        self.told(False, FORK, 3, (None, None, None, 0, 7, None), (1,))
        self.told(False, FORK, 3, (None, None, None, 0, 7, None))

    def test_a_part_more_or_fewer(self):
        for net in (FORK, NET, (1, ()), (10, ())):
            for shut in ((), (0,)) if net[0] > 1 else ((),):
                prices = greatest(net, net[0] - 1, shut)
                self.told(True, net, net[0] - 1, prices, shut)
                for odd in (prices[:-1], prices[1:], (*prices, 0), (*prices, None), (0, *prices), prices * 2, ()):
                    self.told(False, net, net[0] - 1, odd, shut)

    def test_a_list_for_the_tuple(self):
        self.told(False, FORK, 3, list(greatest(FORK, 3)))
        self.told(False, (1, ()), 0, [0])

    def test_no_number_where_one_is_told(self):
        prices = (1, 0, 1, 1, 1, None)
        net = (6, tuple((place, 1, 1, 0) for place in (0, 2, 3, 4)))
        self.told(True, net, 1, prices)
        for odd in (True, False, "1", "", [], [1], (), (1,), {}, {1: 1}):
            for place in range(6):
                self.told(False, net, 1, with_part(prices, place, odd))

    def test_things_of_whatever_kind(self):
        for odd in (*odd_things(), (), 0, 1):
            for shut in ((), (0,), (0, 1, 2, 4)):
                self.told(False, NET, 3, odd, shut)
        for odd in odd_things():
            for place in range(3):
                # Of the things of whatever kind these two may be prices of a place without roads.
                due = place != 1 and (odd is None or type(odd) is int and odd >= 0)
                self.told(due, (3, ()), 1, with_part((0, 0, 0), place, odd))

    def test_all_tuples_of_few_numbers(self):
        net = (3, ((0, 1, 2, 0), (1, 2, 1, 0), (0, 2, 4, 0), (1, 2, 3, 0)))
        for thing in itertools.product((None, -1, 0, 1, 2, 3, 4), repeat=3):
            for goal in range(3):
                for shut in shuts(net, goal):
                    self.told(are_priced(net, goal, thing, shut), net, goal, thing, shut)

    def test_against_a_look(self):
        seen = {True: 0, False: 0}
        for net in made_nets():
            for goal in range(net[0]):
                for shut in shuts(net, goal):
                    prices = greatest(net, goal, shut)
                    for place, step in itertools.product(range(net[0]), (-2, -1, 1, None)):
                        price = None if step is None else (prices[place] or 0) + step
                        thing = with_part(prices, place, price)
                        due = are_priced(net, goal, thing, shut)
                        seen[due] += 1
                        self.told(due, net, goal, thing, shut)
        self.assertGreater(min(seen.values()), 1000)


def no_shuts(net, goal):
    """What is no tuple of shut places."""
    others = tuple(place for place in range(net[0]) if place != goal)
    odd = [thing for thing in odd_things() if thing != ()]
    odd += [list(others), [], (True,), (False,), others[:1] * 2, others[::-1], (goal,), (-1,), (net[0],), (net[0] + 1,)]
    odd += [(*others, net[0]), tuple(range(net[0])), (-1, *others), (others[0], None), (others[0], str(others[1]))]
    odd += [(others[1], others[0]), (others[0], others[0], others[1]), (others[0], others[2], others[1]), 0, others[0]]
    odd += ["", "0", None, (None,), (0, True, 2), (10 ** 29,), ((),), (others,), {others[0]: True}, (others[0], [])]
    return odd


class Refused(unittest.TestCase):
    THINGS = (greatest(NET, 3), (), None, [], "x", True, 10 ** 29)

    def refused(self, kind, net, goal, shut):
        before = repr((net, goal, shut))
        with self.assertRaises(kind, msg=before[:300]) as caught:
            prices_of(net, goal, shut=shut)
        self.assertIs(type(caught.exception), kind)
        for thing in self.THINGS:
            with self.assertRaises(kind, msg=before[:300]) as caught:
                are_prices(net, goal, thing, shut=shut)
            self.assertIs(type(caught.exception), kind)
        self.assertEqual(repr((net, goal, shut)), before)

    def test_no_net_whatever_stands_behind_it(self):
        for odd in (*odd_things(), (), 5, list(NET), (11, ()), (True, ())):
            for goal in (0, -1, 99, None, True, "0"):
                for shut in ((), (0,), (1, 0), [], None, odd):
                    self.refused(NoNet, odd, goal, shut)

    def test_then_no_place_whatever_stands_behind_it(self):
        for net in (NET, (1, ()), (10, ())):
            for odd in (*odd_things(), (), (0,), net[0], net[0] + 1, -net[0]):
                for shut in ((), (0,), (1, 0), [], None, "x", odd):
                    self.refused(NoPlace, net, odd, shut)

    def test_then_no_shut(self):
        for net in (NET, FORK, made_net(5, 10, 30)):
            for goal in range(net[0]):
                for odd in no_shuts(net, goal):
                    self.refused(NoShut, net, goal, odd)

    def test_of_one_place_nothing_can_be_shut(self):
        for odd in ((0,), (1,), [], None, "", (True,)):
            self.refused(NoShut, (1, ()), 0, odd)

    def test_each_place_but_the_goal_can_be_shut(self):
        for places in range(1, 11):
            for goal in range(places):
                for shut in shuts((places, ()), goal):
                    self.assertEqual(prices_of((places, ()), goal, shut=shut), with_part((None,) * places, goal, 0))

    def test_left_out_they_refuse_as_well(self):
        for asked in (lambda net, goal: prices_of(net, goal), lambda net, goal: are_prices(net, goal, ())):
            self.assertRaises(NoNet, asked, None, None)
            self.assertRaises(NoPlace, asked, NET, 5)


class Asking(unittest.TestCase):
    def test_names_of_the_arguments(self):
        self.assertEqual(parameters(prices_of), (["net", "goal"], ["shut"], {"shut": ()}))
        self.assertEqual(parameters(are_prices), (["net", "goal", "thing"], ["shut"], {"shut": ()}))

    def test_by_names_in_another_order(self):
        due = (5, 2, None, 0, 7, None)
        self.assertEqual(prices_of(shut=(2,), goal=3, net=FORK), due)
        self.assertIs(are_prices(shut=(2,), thing=due, goal=3, net=FORK), True)
        self.assertIs(are_prices(thing=due, goal=3, net=FORK), False)
        with self.assertRaises(NoNet):
            prices_of(shut=None, goal=None, net=None)
        with self.assertRaises(NoPlace):
            are_prices(shut=None, thing=None, goal=None, net=FORK)

    def test_shut_is_handed_in_by_its_name_alone(self):
        with self.assertRaises(TypeError):
            prices_of(FORK, 3, (2,))
        with self.assertRaises(TypeError):
            are_prices(FORK, 3, greatest(FORK, 3), ())

    def test_asked_twice_the_same_is_told(self):
        for shut in ((), (2,), (0, 1)):
            first = prices_of(FORK, 3, shut=shut)
            with self.assertRaises(NoShut):
                prices_of(FORK, 3, shut=(3,))
            self.assertEqual(prices_of(FORK, 3, shut=shut), first)
            self.assertEqual(prices_of(copy.deepcopy(FORK), 3, shut=shut), first)

    def test_nothing_hangs_on_what_was_handed_in_earlier(self):
        thing = list(greatest(FORK, 3))
        self.assertIs(are_prices(FORK, 3, thing), False)
        self.assertIs(are_prices(FORK, 3, tuple(thing)), True)
        thing[0] += 1
        self.assertIs(are_prices(FORK, 3, tuple(thing)), False)


if __name__ == "__main__":
    unittest.main()
