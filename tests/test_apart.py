"""Point 40, and points 2, 3, 4 as they bear on it; the refusals of bounds as well, which point 40 tells."""

import copy
import itertools
import unittest

from lookers import apart_cost, least_cost_apart, sets_apart
from reckoning import all_simple, cost
from samples import NET, check_refusals, made_net, odd_things, parameters, ringed_net, variants
from waysranked.apart import cost_apart, least_apart
from waysranked.bounds import bound_of, bound_shows
from waysranked.errors import NoMany, NoNet, NoPlace, NoWord

BY = ("roads", "places")
# From 0 to 3 the least way (0, 1, 2) for 3 is in no set of two: (0, 4) and (3, 2) share nothing and cost 12.
TRAP = (4, ((0, 1, 1, 0), (1, 2, 1, 0), (2, 3, 1, 0), (0, 2, 5, 0), (1, 3, 5, 0)))
# From 0 to 4 by way of 2: two roads lead there and two on, so that ways share a place and no road.
CROSS = (5, ((0, 1, 1, 0), (1, 2, 1, 0), (0, 2, 4, 0), (2, 3, 1, 0), (3, 4, 1, 0), (2, 4, 4, 0)))
# Roads side by side, two of like costs, and one back.
SIDE = (2, ((0, 1, 4, 0), (0, 1, 2, 0), (1, 0, 1, 0), (0, 1, 2, 0), (0, 1, 9, 0), (0, 1, 7, 0)))
FULL = (4, tuple((one, other, 1 + one + 2 * other, 0) for one in range(4) for other in range(4) if one != other))


def nets():
    """Nets of four to six places with several ways from 0 to 3, some with many ways of like costs."""
    told = [TRAP, CROSS, FULL, NET]
    for seed in range(60):
        told.append(made_net(seed, 4 + seed % 3, 8 + seed % 7, (2, 9, 99)[seed % 3]))
        told.append(ringed_net(seed, 4 + seed % 3, 8 + seed % 6, (2, 9, 99)[seed % 3]))
    return told


class Cost(unittest.TestCase):
    def told(self, due, net, start, goal, thing, many, by):
        before = repr((net, start, goal, thing, many, by))
        told = cost_apart(net, start, goal, thing, many=many, by=by)
        if due is None:
            self.assertIs(told, None, before[:300])
        else:
            self.assertIs(type(told), int, before[:300])
            self.assertEqual(told, due, before[:300])
        self.assertEqual(repr((net, start, goal, thing, many, by)), before)

    def alike(self, net, start, goal, thing, many, by):
        due = apart_cost(net, start, goal, thing, many, by)
        self.told(due, net, start, goal, thing, many, by)
        return due

    def test_ordinary_ones(self):
        for by in BY:
            self.told(12, TRAP, 0, 3, ((0, 4), (3, 2)), 2, by)
            self.told(3, TRAP, 0, 3, ((0, 1, 2),), 1, by)
            self.told(6, TRAP, 0, 3, ((3, 2),), 1, by)
            self.told(None, TRAP, 0, 3, ((0, 1, 2), (3, 2)), 2, by)
            self.told(None, TRAP, 0, 3, ((0, 1, 2), (0, 4)), 2, by)

    def test_a_place_in_two_but_no_road(self):
        for one, other in (((0, 1, 3, 4), (2, 5)), ((0, 1, 5), (2, 3, 4))):
            self.told(12, CROSS, 0, 4, (one, other), 2, "roads")
            self.told(None, CROSS, 0, 4, (one, other), 2, "places")
        # Here all have start and goal in common, and nothing else.
        self.told(4 + 6 + 10, (5, ((0, 1, 2, 0), (1, 4, 2, 0), (0, 2, 3, 0), (2, 4, 3, 0), (0, 3, 5, 0), (3, 4, 5, 0))),
                  0, 4, ((0, 1), (2, 3), (4, 5)), 3, "places")

    def test_roads_side_by_side(self):
        for by in BY:
            for many in range(1, 5):
                for roads in itertools.combinations((0, 1, 3, 4, 5), many):
                    due = sum(SIDE[1][road][2] for road in roads)
                    self.told(due, SIDE, 0, 1, tuple((road,) for road in roads), many, by)
                    if many > 1:
                        self.told(None, SIDE, 0, 1, tuple((road,) for road in roads[::-1]), many, by)
                        self.told(None, SIDE, 0, 1, tuple((road,) for road in roads[:-1] * 2)[:many], many, by)
        # One road between the others is in two ways, though the ways are unlike.
        net = (3, ((0, 1, 1, 0), (0, 1, 1, 0), (1, 2, 1, 0), (1, 2, 1, 0)))
        self.told(None, net, 0, 2, ((0, 2), (1, 2)), 2, "roads")
        self.told(4, net, 0, 2, ((0, 2), (1, 3)), 2, "roads")
        self.told(None, net, 0, 2, ((0, 2), (1, 3)), 2, "places")

    def test_left_out_it_is_two_by_roads(self):
        ways = ((0, 1, 3, 4), (2, 5))
        self.assertEqual(cost_apart(CROSS, 0, 4, ways), 12)
        self.assertEqual(cost_apart(CROSS, 0, 4, ways, by="roads"), 12)
        self.assertIs(cost_apart(CROSS, 0, 4, ways, by="places"), None)
        self.assertEqual(cost_apart(CROSS, 0, 4, ways, many=2), 12)
        self.assertIs(cost_apart(CROSS, 0, 4, ways[:1]), None)
        self.assertEqual(cost_apart(CROSS, 0, 4, ways[:1], many=1, by="places"), 4)

    def test_they_rise_as_tuples_compare_whatever_they_cost(self):
        net = (2, ((0, 1, 9, 0), (0, 1, 1, 0)))
        for by in BY:
            self.told(10, net, 0, 1, ((0,), (1,)), 2, by)
            self.told(None, net, 0, 1, ((1,), (0,)), 2, by)

    def test_no_set(self):
        net = (4, ((0, 1, 1, 0), (1, 3, 1, 0), (0, 2, 1, 0), (2, 3, 1, 0), (1, 2, 1, 0), (2, 1, 1, 0), (3, 0, 1, 0),
                   (0, 3, 1, 0), (2, 0, 1, 0), (3, 2, 1, 0)))
        for by in BY:
            self.told(4, net, 0, 3, ((0, 1), (2, 3)), 2, by)
            self.told(5, net, 0, 3, ((0, 1), (2, 3), (7,)), 3, by)
            for odd in ((0, 1), (0,), (0, 4), (), (1,), (3,), (0, 3), (2, 8, 7), (2, 3, 9, 3), (7, 6, 7), (2, 5, 4, 3),
                        (10,), (-1,), (0, -9), (0, 10), (False, 1), (0, True), [0, 1], "01", None, 0, True, (0, None),
                        ((0,), 1), {0: 1}):
                for ways in (((0, 1), odd), (odd, (0, 1)), (odd, odd), ((0, 1), (2, 3), odd), (odd,), (odd, (2, 3))):
                    for many in range(1, 5):
                        self.alike(net, 0, 3, ways, many, by)
            for ways in (((0, 1), (2, 8, 7)), ((0, 1), (7, 6, 7)), ((0, 1), (2,)), ((0, 1), (2, 4)), ((0, 1), ())):
                self.told(None, net, 0, 3, ways, 2, by)
            self.told(None, net, 0, 3, ((False, 1), (2, 3)), 2, by)
            self.told(None, net, 0, 3, ((0, True), (2, 3)), 2, by)
            self.told(None, net, 0, 3, [(0, 1), (2, 3)], 2, by)
            self.told(None, net, 0, 3, ([0, 1], (2, 3)), 2, by)
            self.told(None, net, 0, 3, ((0, 1), [2, 3]), 2, by)
            self.told(None, net, 0, 3, ((0, 1), (0, 1)), 2, by)
            self.told(None, net, 0, 3, (), 2, by)
            self.told(None, net, 0, 3, (), 1, by)
            self.told(None, net, 0, 3, ((),), 1, by)
            # To elsewhere, or from there.
            self.told(None, net, 0, 1, ((0, 1), (2, 3)), 2, by)
            self.told(None, net, 1, 3, ((0, 1), (2, 3)), 2, by)

    def test_one_more_or_fewer(self):
        for by in BY:
            for held in range(5):
                ways = tuple((road,) for road in (0, 1, 3, 4, 5)[:held])
                for many in range(1, 5):
                    self.told(sum(SIDE[1][road][2] for road, in ways) if held == many else None,
                              SIDE, 0, 1, ways, many, by)

    def test_all_choices_of_ways(self):
        seen = {"roads": [0, 0], "places": [0, 0]}
        for net in nets():
            ways = sorted(all_simple(net, 0, 3))[:9]
            for by in BY:
                for many in range(1, 5):
                    for thing in itertools.combinations(ways, many):
                        seen[by][self.alike(net, 0, 3, thing, many, by) is None] += many > 1
                        if many > 1:
                            self.told(None, net, 0, 3, thing[::-1], many, by)
        self.assertGreater(min(seen["roads"] + seen["places"]), 200, seen)

    def test_variants(self):
        for net, goal, thing in ((TRAP, 3, ((0, 4), (3, 2))), (CROSS, 4, ((0, 1, 3, 4), (2, 5))),
                                 (SIDE, 1, ((0,), (1,), (3,)))):
            for by in BY:
                seen = [0, 0]
                for other in variants(thing, odd_things()):
                    for many in (len(thing), 1):
                        seen[self.alike(net, 0, goal, other, many, by) is None] += 1
                self.assertGreater(seen[1], 300)

    def test_things_of_whatever_kind(self):
        for odd in (*odd_things(), (), 0, 1, "roads", "none", ("cut", (), ()), {(0, 4): (3, 2)}):
            for by in BY:
                for many in range(1, 5):
                    self.told(None, TRAP, 0, 3, odd, many, by)
                    self.told(None, (2, ()), 0, 1, odd, many, by)


class Least(unittest.TestCase):
    def found(self, net, start, goal, many, by, due):
        """What is told is a set that is apart and costs so much, None where nothing is due."""
        before = repr((net, start, goal, many, by))
        told = least_apart(net, start, goal, many=many, by=by)
        if due is None:
            self.assertIs(told, None, before)
        else:
            self.assertIs(type(told), tuple, before)
            self.assertTrue(all(type(way) is tuple and all(type(road) is int for road in way) for way in told), before)
            self.assertEqual(apart_cost(net, start, goal, told, many, by), due, (before, told))
            self.assertEqual(cost_apart(net, start, goal, told, many=many, by=by), due, (before, told))
        self.assertEqual(repr((net, start, goal, many, by)), before)
        return told

    def test_the_least_way_is_in_no_least_set_of_two(self):
        for by in BY:
            self.assertEqual(least_apart(TRAP, 0, 3, by=by), ((0, 4), (3, 2)))
            self.assertEqual(least_apart(TRAP, 0, 3, many=1, by=by), ((0, 1, 2),))
            self.assertIs(least_apart(TRAP, 0, 3, many=3, by=by), None)
        # Here there is a set with the least way, too, but it costs more.
        net = (4, TRAP[1] + ((0, 3, 50, 0),))
        for by in BY:
            self.assertEqual(least_apart(net, 0, 3, by=by), ((0, 4), (3, 2)))
            self.assertEqual(least_apart(net, 0, 3, many=3, by=by), ((0, 4), (3, 2), (5,)))

    def test_that_by_places_too(self):
        # From 0 to 5 the least way goes through 1 and 4, which the two that share nothing need for each one.
        net = (6, ((0, 1, 1, 0), (1, 4, 1, 0), (4, 5, 1, 0), (0, 2, 3, 0), (2, 4, 3, 0), (1, 3, 3, 0), (3, 5, 3, 0),
                   (0, 1, 2, 0), (4, 5, 2, 0)))
        self.assertEqual(least_apart(net, 0, 5, many=1, by="places"), ((0, 1, 2),))
        self.assertEqual(least_apart(net, 0, 5, many=2, by="places"), ((0, 5, 6), (3, 4, 2)))
        self.found(net, 0, 5, 2, "roads", 3 + 8)
        self.found(net, 0, 5, 3, "places", None)

    def test_a_place_in_two_but_no_road(self):
        self.found(CROSS, 0, 4, 2, "roads", 12)
        self.found(CROSS, 0, 4, 2, "places", None)
        self.found(CROSS, 0, 4, 1, "places", 4)

    def test_roads_side_by_side(self):
        for by in BY:
            self.assertEqual(least_apart(SIDE, 0, 1, many=1, by=by) in (((1,),), ((3,),)), True)
            self.assertEqual(least_apart(SIDE, 0, 1, many=2, by=by), ((1,), (3,)))
            self.assertEqual(least_apart(SIDE, 0, 1, many=3, by=by), ((0,), (1,), (3,)))
            self.assertEqual(least_apart(SIDE, 0, 1, many=4, by=by), ((0,), (1,), (3,), (5,)))
            self.assertEqual(least_apart(SIDE, 1, 0, many=1, by=by), ((2,),))
            self.assertIs(least_apart(SIDE, 1, 0, many=2, by=by), None)
            net = (2, tuple((0, 1, 99 - at, 0) for at in range(30)))
            self.assertEqual(least_apart(net, 0, 1, many=4, by=by), ((26,), (27,), (28,), (29,)))

    def test_none_where_there_is_none(self):
        for by in BY:
            for many in range(1, 5):
                self.found((2, ()), 0, 1, many, by, None)
                self.found((10, ()), 9, 0, many, by, None)
                self.found(NET, 0, 4, many, by, None)
                self.found(NET, 3, 0, many, by, None)
                self.found((2, ((1, 0, 1, 0),)), 0, 1, many, by, None)

    def test_left_out_it_is_two_by_roads(self):
        self.assertEqual(least_apart(TRAP, 0, 3), ((0, 4), (3, 2)))
        self.assertEqual(apart_cost(CROSS, 0, 4, least_apart(CROSS, 0, 4), 2, "roads"), 12)
        self.assertIs(least_apart(CROSS, 0, 4, by="places"), None)

    def test_against_all_sets(self):
        seen = {}
        for net in nets():
            for start, goal in ((0, 3), (1, 2), (3, 0)):
                for by, many in itertools.product(BY, range(1, 5)):
                    due = least_cost_apart(net, start, goal, many, by)
                    seen.setdefault((by, many), [0, 0])[due is None] += 1
                    told = self.found(net, start, goal, many, by, due)
                    if due is not None:
                        self.assertIn(told, list(sets_apart(net, start, goal, many, by)))
        self.assertGreater(min(number for row in seen.values() for number in row), 5, seen)

    def test_the_least_way_in_no_least_set_of_made_nets(self):
        seen = 0
        for seed in range(200):
            # Roads of cost 1 lead from 0 over 1 and 2 to 3, all others cost more.
            places, roads = made_net(seed, 4 + seed % 3, 10, 9)
            net = (places, TRAP[1][:3] + tuple((one, other, 3 + price, 0) for one, other, price, _ in roads))
            ways = all_simple(net, 0, 3)
            if len(ways) > 1 and cost(net, ways[0]) < cost(net, ways[1]):
                for by in BY:
                    due = least_cost_apart(net, 0, 3, 2, by)
                    least = [told for told in sets_apart(net, 0, 3, 2, by)
                             if sum(cost(net, way) for way in told) == due]
                    if least and not any(ways[0] in told for told in least):
                        seen += 1
                        self.assertIn(self.found(net, 0, 3, 2, by, due), least)
        self.assertGreater(seen, 10)


class Refused(unittest.TestCase):
    NETS = (*odd_things(), (), 5, list(NET), (11, ()), (True, ()))
    WORDS = (*odd_things(), "road", "place", "Roads", "ROADS", " roads", "roads ", "roads\n", "", "none", 0, 1, 2,
             None, True, ("roads",), ["places"], {"roads": 1})

    def asked(self, kind, net, start, goal, many, by, things=((), None)):
        before = repr((net, start, goal, many, by))
        for asked in (least_apart, bound_of):
            with self.assertRaises(kind, msg=before[:300]) as caught:
                asked(net, start, goal, many=many, by=by)
            self.assertIs(type(caught.exception), kind)
        for asked in (cost_apart, bound_shows):
            for thing in things:
                with self.assertRaises(kind, msg=before[:300]) as caught:
                    asked(net, start, goal, thing, many=many, by=by)
                self.assertIs(type(caught.exception), kind)
        self.assertEqual(repr((net, start, goal, many, by)), before)

    def test_no_net_whatever_stands_behind_it(self):
        for odd in self.NETS:
            for place, many, by in ((0, 2, "roads"), (None, 0, "x"), (odd, odd, odd), (-1, True, None)):
                self.asked(NoNet, odd, place, place, many, by, ((), ((0,), (1,)), odd))

    def test_then_no_place_whatever_stands_behind_it(self):
        for net in (TRAP, (2, ()), (10, ())):
            for odd in (*odd_things(), (), (0,), net[0], net[0] + 1, -net[0]):
                for many, by in ((2, "roads"), (0, "places"), (1, "x"), (odd, odd)):
                    self.asked(NoPlace, net, odd, 0, many, by, ((), odd))
                    self.asked(NoPlace, net, 0, odd, many, by, ((), odd))
                    self.asked(NoPlace, net, odd, odd, many, by, ((), odd))

    def test_the_goal_is_not_the_start(self):
        for net in (TRAP, NET, (1, ()), (10, ())):
            for place in range(net[0]):
                for many, by in ((1, "roads"), (2, "places"), (0, "x"), (None, None)):
                    self.asked(NoPlace, net, place, place, many, by, ((), ((),), None))

    def test_then_no_many(self):
        for odd in (*odd_things(), 0, 5, 6, -1, 12, True, False, None, "2", "", (2,), [2], ()):
            for by in ("roads", "places", "x", None, odd):
                self.asked(NoMany, TRAP, 0, 3, odd, by, (((0, 4), (3, 2)), odd))

    def test_then_no_word(self):
        for odd in self.WORDS:
            for many in range(1, 5):
                self.asked(NoWord, TRAP, 0, 3, many, odd, (((0, 4), (3, 2)), odd))

    def test_several_at_once(self):
        rows = [("net", TRAP, ((), None), NoNet), ("start", 0, (4, True), NoPlace), ("goal", 3, (0, -1, [3]), NoPlace),
                ("many", 2, (0, 5, True, None), NoMany), ("by", "roads", ("road", None, 0, []), NoWord)]
        for asked in (least_apart, bound_of):
            check_refusals(self, asked, rows)
        for asked in (cost_apart, bound_shows):
            for thing in ((), ((0, 4), (3, 2)), None, [], "bound"):
                check_refusals(self, lambda **handed: asked(thing=thing, **handed), rows)


class Asking(unittest.TestCase):
    def test_names_of_the_arguments(self):
        left_out = {"many": 2, "by": "roads"}
        self.assertEqual(parameters(cost_apart), (["net", "start", "goal", "thing"], ["many", "by"], left_out))
        self.assertEqual(parameters(least_apart), (["net", "start", "goal"], ["many", "by"], left_out))
        with self.assertRaises(TypeError):
            cost_apart(TRAP, 0, 3, ((0, 4), (3, 2)), 2)
        with self.assertRaises(TypeError):
            least_apart(TRAP, 0, 3, 2)

    def test_by_names_in_another_order(self):
        ways = ((0, 4), (3, 2))
        self.assertEqual(cost_apart(by="places", many=2, thing=ways, goal=3, start=0, net=TRAP), 12)
        self.assertEqual(cost_apart(thing=ways, goal=3, start=0, net=TRAP), 12)
        self.assertEqual(least_apart(by="places", many=2, goal=3, start=0, net=TRAP), ways)
        self.assertEqual(least_apart(goal=3, start=0, net=TRAP), ways)

    def test_asked_twice_the_same_is_told(self):
        net = ringed_net(5, 6, 14, 2)
        for by, many in itertools.product(BY, range(1, 5)):
            first = least_apart(net, 0, 3, many=many, by=by)
            least_apart(TRAP, 0, 3, many=many, by=by)
            with self.assertRaises(NoWord):
                least_apart(net, 0, 3, many=many, by="x")
            self.assertEqual(least_apart(net, 0, 3, many=many, by=by), first)
            self.assertEqual(least_apart(copy.deepcopy(net), 0, 3, many=many, by=by), first)

    def test_nothing_hangs_on_what_was_handed_in_earlier(self):
        thing = [(0, 4), (3, 2)]
        self.assertIs(cost_apart(TRAP, 0, 3, thing), None)
        self.assertEqual(cost_apart(TRAP, 0, 3, tuple(thing)), 12)
        thing.reverse()
        self.assertIs(cost_apart(TRAP, 0, 3, tuple(thing)), None)


if __name__ == "__main__":
    unittest.main()
