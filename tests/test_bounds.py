"""Points 41 and 42, and points 2, 3, 4 as they bear on them; their refusals are tested with those of point 40."""

import copy
import itertools
import unittest

from lookers import bound_looked, bound_number, is_cut_by, least_cost_apart, sets_apart
from reckoning import cost
from samples import NET, Dice, made_net, made_nets, odd_things, parameters, ringed_net, variants, with_part
from waysranked.apart import cost_apart, least_apart
from waysranked.bounds import bound_of, bound_shows
from waysranked.errors import NoMany, NoPlace, NoWord

BY = ("roads", "places")
# From 0 to 3: (0, 1, 2) for 3, and for 12 the set of (0, 4) and (3, 2).
TRAP = (4, ((0, 1, 1, 0), (1, 2, 1, 0), (2, 3, 1, 0), (0, 2, 5, 0), (1, 3, 5, 0)))
# From 0 to 4 all goes by way of 2.
CROSS = (5, ((0, 1, 1, 0), (1, 2, 1, 0), (0, 2, 4, 0), (2, 3, 1, 0), (3, 4, 1, 0), (2, 4, 4, 0)))
SIDE = (2, ((0, 1, 4, 0), (0, 1, 2, 0), (1, 0, 1, 0), (0, 1, 2, 0)))


def alike(prices):
    """Pairs with in and out one."""
    return tuple((price, price) for price in prices)


def fitting(net, pairs, more=None):
    """The bound with these prices and just the numbers that it wants, or with more, drawn by the dice."""
    roads = [max(0, pairs[one][1] - pairs[other][0] - price) for one, other, price, _ in net[1]]
    places = [max(0, comes - goes) for comes, goes in pairs]
    if more is not None:
        roads = [number + more.below(3) for number in roads]
    return ("bound", tuple(pairs), tuple(roads), tuple(places))


def drawn_pairs(net, start, goal, by, dice, low=-20):
    """Prices that may be a bound's, for each place two, drawn by the dice."""
    pairs = []
    for place in range(net[0]):
        comes = low + dice.below(60)
        goes = comes if by == "roads" else low + dice.below(60)
        pairs.append((comes, max(comes, goes) if place in (start, goal) else goes))
    return pairs


class Looked(unittest.TestCase):
    def told(self, due, net, start, goal, thing, many, by):
        before = repr((net, start, goal, thing, many, by))
        told = bound_shows(net, start, goal, thing, many=many, by=by)
        if due is None:
            self.assertIs(told, None, before[:500])
        else:
            self.assertIs(type(told), type(due), before[:500])
            self.assertEqual(told, due, before[:500])
        self.assertEqual(repr((net, start, goal, thing, many, by)), before)

    def alike(self, net, start, goal, thing, many, by):
        """As the test itself looks; what it saw."""
        due = bound_looked(net, start, goal, thing, many, by)
        self.told(due, net, start, goal, thing, many, by)
        return due


class Bounds(Looked):
    def test_by_hand(self):
        # Roads 0, 1 and 2 fall by more than they cost, by 1, 2 and 1; the others by just what they cost.
        good = ("bound", alike((7, 5, 2, 0)), (1, 2, 1, 0, 0), (0, 0, 0, 0))
        self.told(2 * 7 - 4, TRAP, 0, 3, good, 2, "roads")
        self.told(2 * 7 - 4, TRAP, 0, 3, good, 2, "places")
        self.told(7 - 4, TRAP, 0, 3, good, 1, "roads")
        self.told(4 * 7 - 4, TRAP, 0, 3, good, 4, "roads")
        best = ("bound", alike((10, 5, 5, 0)), (4, 0, 4, 0, 0), (0, 0, 0, 0))
        self.told(12, TRAP, 0, 3, best, 2, "roads")
        self.told(12, TRAP, 0, 3, best, 2, "places")
        # One number less, and a road falls too far.
        for road in (0, 2):
            self.told(None, TRAP, 0, 3, (*best[:2], with_part(best[2], road, 3), best[3]), 2, "roads")
            self.told(11, TRAP, 0, 3, (*best[:2], with_part(best[2], road, 5), best[3]), 2, "roads")

    def test_left_out_it_is_two_by_roads(self):
        best = ("bound", alike((10, 5, 5, 0)), (4, 0, 4, 0, 0), (0, 0, 0, 0))
        self.assertEqual(bound_shows(TRAP, 0, 3, best), 12)
        self.assertEqual(bound_shows(TRAP, 0, 3, best, by="places"), 12)
        unlike = ("bound", ((10, 10), (4, 5), (5, 5), (0, 0)), (5, 0, 4, 0, 0), (0, 0, 0, 0))
        self.assertIs(bound_shows(TRAP, 0, 3, unlike), None)
        self.assertEqual(bound_shows(TRAP, 0, 3, unlike, by="places"), 11)
        self.assertEqual(bound_shows(TRAP, 0, 3, ("cut", (0,), ()), many=2), None)
        self.assertEqual(bound_shows((2, ((0, 1, 1, 0),)), 0, 1, ("cut", (0,), ())), "none")

    def test_prices_of_all_alike(self):
        for net in (TRAP, CROSS, SIDE, NET, (2, ()), (10, ())):
            for by, many, price in itertools.product(BY, range(1, 5), (0, 7, -7, 10 ** 29, -(10 ** 29))):
                thing = ("bound", alike((price,) * net[0]), (0,) * len(net[1]), (0,) * net[0])
                self.told(0, net, 0, 1, thing, many, by)
                self.told(0, net, 1, 0, thing, many, by)

    def test_the_start_s_out_and_the_goal_s_in(self):
        # By "places" the start's in and the goal's out are beside the matter but for what leads to and from them.
        net = (3, ((0, 1, 5, 0), (1, 2, 5, 0)))
        for comes in (9, 10, 4, -50):
            for goes in (0, 1, 60):
                thing = ("bound", ((comes, 10), (5, 5), (0, goes)), (0, 0), (0, 0, 0))
                self.told(2 * 10, net, 0, 2, thing, 2, "places")
                self.told(20 if (comes, goes) == (10, 0) else None, net, 0, 2, thing, 2, "roads")
        for pairs in (((11, 10), (5, 5), (0, 0)), ((10, 10), (5, 5), (0, -1))):
            for places in ((0, 0, 0), (1, 0, 0), (0, 0, 1), (1, 0, 1)):
                self.told(None, net, 0, 2, ("bound", pairs, (0, 0), places), 2, "places")

    def test_a_number_of_a_place(self):
        net = (3, ((0, 1, 5, 0), (1, 2, 5, 0)))
        thing = ("bound", ((13, 13), (8, 5), (0, 0)), (0, 0), (0, 3, 0))
        self.told(2 * 13 - 3, net, 0, 2, thing, 2, "places")
        self.told(4 * 13 - 3, net, 0, 2, thing, 4, "places")
        self.told(None, net, 0, 2, thing, 2, "roads")
        self.told(None, net, 0, 2, (*thing[:3], (0, 2, 0)), 2, "places")
        self.told(2 * 13 - 4, net, 0, 2, (*thing[:3], (0, 4, 0)), 2, "places")
        for place in (0, 2):
            self.told(None, net, 0, 2, (*thing[:3], with_part((0, 3, 0), place, 1)), 2, "places")
        # By "roads" no place has a number, whether it is wanted or not.
        even = ("bound", alike((10, 5, 0)), (0, 0), (0, 0, 0))
        self.told(20, net, 0, 2, even, 2, "roads")
        for place in range(3):
            self.told(None, net, 0, 2, (*even[:3], with_part((0, 0, 0), place, 1)), 2, "roads")
        self.told(19, net, 0, 2, (*even[:3], (0, 1, 0)), 2, "places")

    def test_a_road_falls_by_its_cost_and_its_number(self):
        for price, number in itertools.product((1, 5, 99), (0, 1, 4)):
            net = (2, ((0, 1, price, 0),))
            for falls in range(price + number - 2, price + number + 3):
                thing = ("bound", alike((falls, 0)), (number,), (0, 0))
                due = falls - number if falls <= price + number else None
                for by in BY:
                    self.told(due, net, 0, 1, thing, 1, by)
        # A road to the start and one from the goal count, too.
        net = (2, ((0, 1, 5, 0), (1, 0, 3, 0)))
        self.told(-3, net, 0, 1, ("bound", alike((0, 3)), (0, 0), (0, 0)), 1, "roads")
        self.told(None, net, 0, 1, ("bound", alike((0, 4)), (0, 0), (0, 0)), 1, "roads")
        self.told(-5, net, 0, 1, ("bound", alike((0, 4)), (0, 1), (0, 0)), 1, "roads")

    def test_where_there_is_no_set(self):
        for many in range(1, 5):
            self.told(7 * many, (2, ()), 0, 1, ("bound", alike((7, 0)), (), (0, 0)), many, "roads")
            self.told(10 ** 20 * many, (2, ()), 0, 1, ("bound", alike((10 ** 20, 0)), (), (0, 0)), many, "places")
            self.told(many * 12 - 10, (2, ((0, 1, 2, 0),)), 0, 1, ("bound", alike((12, 0)), (10,), (0, 0)), many,
                      "roads")

    def test_drawn_bounds(self):
        seen = {by: [0, 0] for by in BY}
        for seed in range(250):
            dice = Dice(seed)
            net = ringed_net(seed, 4 + seed % 4, 8 + seed % 9, (3, 9, 30)[seed % 3])
            start, goal = seed % net[0], (seed + 1 + seed // 7 % (net[0] - 1)) % net[0]
            for by, many in itertools.product(BY, (1, 2, 4)):
                pairs = drawn_pairs(net, start, goal, by, dice)
                for thing in (fitting(net, pairs), fitting(net, pairs, dice)):
                    due = self.alike(net, start, goal, thing, many, by)
                    self.assertIs(type(due), int)
                    for part in (2, 3):
                        for at, number in enumerate(thing[part]):
                            less = with_part(thing, part, with_part(thing[part], at, number - 1))
                            more = with_part(thing, part, with_part(thing[part], at, number + 1))
                            seen[by][self.alike(net, start, goal, less, many, by) is None] += 1
                            seen[by][self.alike(net, start, goal, more, many, by) is None] += 1
                # The numbers of other prices.
                other = fitting(net, drawn_pairs(net, start, goal, by, dice))
                mixed = (*fitting(net, pairs)[:2], *other[2:])
                seen[by][self.alike(net, start, goal, mixed, many, by) is None] += 1
                for word in BY:
                    self.alike(net, start, goal, fitting(net, pairs), many, word)
        self.assertGreater(min(seen["roads"] + seen["places"]), 1000, seen)

    def test_each_price_one_more_or_less(self):
        asked = [(TRAP, 0, 3, 2, "roads"), (TRAP, 0, 3, 2, "places"), (CROSS, 0, 4, 2, "roads"),
                 (SIDE, 0, 1, 3, "places"), (ringed_net(3, 6, 14, 9), 0, 3, 2, "places")]
        for net, start, goal, many, by in asked:
            thing = bound_of(net, start, goal, many=many, by=by)
            self.assertEqual(thing[0], "bound")
            seen = [0, 0]
            for place, at, step in itertools.product(range(net[0]), (0, 1, None), (-1, 1, -9, 9)):
                pair = thing[1][place]
                pair = tuple(price + step for price in pair) if at is None else with_part(pair, at, pair[at] + step)
                other = with_part(thing, 1, with_part(thing[1], place, pair))
                seen[self.alike(net, start, goal, other, many, by) is None] += 1
            self.assertGreater(seen[1], 10)

    def test_variants(self):
        seen = {}
        asked = ((TRAP, 0, 3, 2, "roads"), (TRAP, 0, 3, 2, "places"), (SIDE, 0, 1, 1, "places"))
        for net, start, goal, many, by in asked:
            thing = bound_of(net, start, goal, many=many, by=by)
            for other in variants(thing, odd_things()):
                shown = self.alike(net, start, goal, other, many, by)
                seen[type(shown)] = seen.get(type(shown), 0) + 1
        self.assertGreater(seen[type(None)], 3000)
        self.assertGreater(seen[int], 50)

    def test_parts_more_or_fewer(self):
        best = ("bound", alike((10, 5, 5, 0)), (4, 0, 4, 0, 0), (0, 0, 0, 0))
        for by in BY:
            self.told(12, TRAP, 0, 3, best, 2, by)
            for odd in (best[:3], best[1:], (*best, ()), (*best, "bound"), ("bound", best), (best,), list(best),
                        ("Bound", *best[1:]), ("cut", *best[1:]), ("", *best[1:]), (None, *best[1:]), (True, *best[1:]),
                        ("bound ", *best[1:]), (("bound",), *best[1:])):
                self.told(None, TRAP, 0, 3, odd, 2, by)
            for part in (1, 2, 3):
                held = best[part]
                for odd in (held[:-1], (*held, 0), (*held, (0, 0)), (*held, held[-1]), (), list(held), None, 0, "0000"):
                    self.told(None, TRAP, 0, 3, with_part(best, part, odd), 2, by)
                for at in range(len(held)):
                    for odd in (None, True, False, "0", (), [0], (0,), (0, 0, 0), [0, 0], ("0", 0), (True, True)):
                        self.told(None, TRAP, 0, 3, with_part(best, part, with_part(held, at, odd)), 2, by)

    def test_truths_are_no_numbers(self):
        net = (2, ((0, 1, 1, 0),))
        for by in BY:
            self.told(1, net, 0, 1, ("bound", ((1, 1), (0, 0)), (0,), (0, 0)), 1, by)
            self.told(0, net, 0, 1, ("bound", ((1, 1), (0, 0)), (1,), (0, 0)), 1, by)
            for pairs in (((True, 1), (0, 0)), ((1, True), (0, 0)), ((1, 1), (False, 0)), ((1, 1), (0, False))):
                self.told(None, net, 0, 1, ("bound", pairs, (0,), (0, 0)), 1, by)
            for odd in (True, False):
                self.told(None, net, 0, 1, ("bound", ((1, 1), (0, 0)), (odd,), (0, 0)), 1, by)
            self.told(None, net, 0, 1, ("bound", ((1, 1), (0, 0)), (0,), (False, 0)), 1, by)
            self.told(None, net, 0, 1, ("bound", ((1, 1), (0, 0)), (0,), (0, False)), 1, by)

    def test_numbers_below_nought(self):
        net = (3, ((0, 1, 5, 0), (1, 2, 5, 0)))
        for by in BY:
            self.told(0, net, 0, 2, ("bound", alike((0, 0, 0)), (0, 0), (0, 0, 0)), 2, by)
            for roads in ((-1, 0), (0, -1), (-5, -5), (-(10 ** 29), 0)):
                self.told(None, net, 0, 2, ("bound", alike((0, 0, 0)), roads, (0, 0, 0)), 2, by)
            for places in ((-1, 0, 0), (0, -1, 0), (0, 0, -1)):
                self.told(None, net, 0, 2, ("bound", ((0, 0), (0, 3), (0, 0)), (0, 0), places), 2, by)
                self.told(None, net, 0, 2, ("bound", alike((0, 0, 0)), (0, 0), places), 2, by)
            self.told(20, net, 0, 2, ("bound", alike((-90, -95, -100)), (0, 0), (0, 0, 0)), 2, by)

    def test_things_of_whatever_kind(self):
        for odd in (*odd_things(), (), 0, 1, "bound", "cut", ("bound",), ("cut",), ("none",), {"cut": ((), ())}):
            for by, many in itertools.product(BY, range(1, 5)):
                self.told(None, TRAP, 0, 3, odd, many, by)
                self.told(None, (2, ()), 0, 1, odd, many, by)


class Cuts(Looked):
    def test_by_hand(self):
        for by in BY:
            self.told("none", (2, ()), 0, 1, ("cut", (), ()), 1, by)
            self.told("none", (2, ()), 0, 1, ("cut", (), ()), 4, by)
            self.told("none", TRAP, 3, 0, ("cut", (), ()), 1, by)
            self.told(None, TRAP, 0, 3, ("cut", (), ()), 4, by)
            self.told("none", TRAP, 0, 3, ("cut", (0, 3), ()), 3, by)
            self.told("none", TRAP, 0, 3, ("cut", (2, 4), ()), 4, by)
            self.told("none", TRAP, 0, 3, ("cut", (0, 2, 3), ()), 4, by)
            # As many as many, or a way leads on.
            self.told(None, TRAP, 0, 3, ("cut", (0, 3), ()), 2, by)
            self.told(None, TRAP, 0, 3, ("cut", (0, 2, 3), ()), 3, by)
            self.told(None, TRAP, 0, 3, ("cut", (0, 4), ()), 3, by)
            self.told(None, TRAP, 0, 3, ("cut", (0,), ()), 4, by)
        self.told("none", CROSS, 0, 4, ("cut", (), (2,)), 2, "places")
        self.told(None, CROSS, 0, 4, ("cut", (), (2,)), 2, "roads")
        self.told(None, CROSS, 0, 4, ("cut", (), (2,)), 1, "places")
        self.told("none", CROSS, 0, 4, ("cut", (0,), (2,)), 3, "places")
        self.told("none", CROSS, 0, 4, ("cut", (2,), (1,)), 3, "places")
        self.told("none", CROSS, 0, 4, ("cut", (2,), (1, 3)), 4, "places")
        self.told(None, CROSS, 0, 4, ("cut", (2,), (1,)), 2, "places")
        for places in ((0,), (4,), (0, 2), (2, 4), (5,), (-3,), (2, 2), (3, 2), (True, 2), ("2",), (None,), [2], 2):
            self.told(None, CROSS, 0, 4, ("cut", (), places), 4, "places")

    def test_each_choice_of_roads_and_places(self):
        seen = {by: [0, 0] for by in BY}
        nets = [(TRAP, 0, 3), (CROSS, 0, 4), (SIDE, 0, 1), (SIDE, 1, 0), (NET, 0, 3), (made_net(3, 5, 7, 9), 0, 4),
                (made_net(11, 4, 6, 9), 1, 2), ((3, ()), 2, 0)]
        for net, start, goal in nets:
            roads = [one for held in range(5) for one in itertools.combinations(range(len(net[1])), held)]
            places = [one for held in range(4) for one in itertools.combinations(range(net[0]), held)]
            for one, other in itertools.product(roads, places):
                for by, many in itertools.product(BY, range(1, 5)):
                    if len(one) + len(other) <= many:
                        shown = self.alike(net, start, goal, ("cut", one, other), many, by)
                        seen[by][shown is None] += 1
        self.assertGreater(min(seen["roads"] + seen["places"]), 80, seen)

    def test_variants(self):
        seen = {"none": 0, None: 0}
        for net, start, goal, thing, many, by in ((TRAP, 0, 3, ("cut", (0, 3), ()), 3, "roads"),
                                                  (CROSS, 0, 4, ("cut", (), (2,)), 2, "places"),
                                                  (CROSS, 0, 4, ("cut", (2,), (1,)), 3, "places"),
                                                  ((2, ()), 0, 1, ("cut", (), ()), 2, "roads")):
            for other in variants(thing, odd_things()):
                seen[self.alike(net, start, goal, other, many, by)] += 1
        self.assertGreater(seen[None], 500)
        self.assertGreater(seen["none"], 3)

    def test_not_rising_lists_and_truths(self):
        for by in BY:
            self.told("none", TRAP, 0, 3, ("cut", (0, 3), ()), 4, by)
            for roads in ((3, 0), (0, 0, 3), (0, 3, 3), (False, 3), [0, 3], (0, 3, 5), (-5, 0, 3), (0, "3"),
                          (0, 3, None), ((0, 3),), {0: 3}, "03", None, 3):
                self.told(None, TRAP, 0, 3, ("cut", roads, ()), 4, by)
            for odd in (("cut", (0, 3)), ("cut", (0, 3), (), ()), ["cut", (0, 3), ()], ("Cut", (0, 3), ()),
                        ("cut ", (0, 3), ()), ("bound", (0, 3), ()), (None, (0, 3), ()), ("cut", (), (0, 3)),
                        ("cut", (0, 3), []), ("cut", (0, 3), None), ("cut", (0, 3), 0), ((0, 3), ()),
                        ("cut", ((0, 3), ()))):
                self.told(None, TRAP, 0, 3, odd, 4, by)
        self.told(None, (3, ((0, 1, 1, 0), (1, 2, 1, 0))), 0, 2, ("cut", (True,), ()), 2, "roads")
        self.told(None, (3, ((0, 1, 1, 0), (1, 2, 1, 0))), 0, 2, ("cut", (), (True,)), 2, "places")
        self.told("none", (3, ((0, 1, 1, 0), (1, 2, 1, 0))), 0, 2, ("cut", (1,), ()), 2, "roads")
        self.told("none", (3, ((0, 1, 1, 0), (1, 2, 1, 0))), 0, 2, ("cut", (), (1,)), 2, "places")


class Found(Looked):
    def found(self, net, start, goal, many, by):
        """What is told is a bound or a cut; what it shows by the test's own look."""
        before = repr((net, start, goal, many, by))
        told = bound_of(net, start, goal, many=many, by=by)
        self.assertTrue(is_tuples_of_numbers(told[1:]), told)
        shown = self.alike(net, start, goal, told, many, by)
        if told[0] == "cut":
            self.assertTrue(is_cut_by(net, start, goal, told, many, by), (before, told))
            self.assertEqual(shown, "none")
        else:
            self.assertIsNotNone(bound_number(net, start, goal, told, many, by), (before, told))
            self.assertIs(type(shown), int)
        self.assertIs(type(told), tuple)
        self.assertEqual(repr((net, start, goal, many, by)), before)
        return shown

    def test_by_hand(self):
        for by in BY:
            self.assertEqual(self.found(TRAP, 0, 3, 1, by), 3)
            self.assertEqual(self.found(TRAP, 0, 3, 2, by), 12)
            self.assertEqual(self.found(TRAP, 0, 3, 3, by), "none")
            self.assertEqual(self.found(SIDE, 0, 1, 3, by), 8)
            self.assertEqual(self.found(SIDE, 0, 1, 4, by), "none")
            self.assertEqual(bound_of((2, ()), 0, 1, many=3, by=by), ("cut", (), ()))
        self.assertEqual(self.found(CROSS, 0, 4, 2, "roads"), 12)
        self.assertEqual(bound_of(CROSS, 0, 4, many=2, by="places"), ("cut", (), (2,)))
        self.assertEqual(bound_of(TRAP, 0, 3), bound_of(TRAP, 0, 3, many=2, by="roads"))
        self.assertEqual(bound_shows(TRAP, 0, 3, bound_of(TRAP, 0, 3)), 12)
        self.assertEqual(bound_shows(CROSS, 0, 4, bound_of(CROSS, 0, 4)), 12)

    def test_against_all_sets(self):
        seen = {}
        for seed in range(120):
            net = (made_net, ringed_net)[seed % 2](seed, 4 + seed % 3, 8 + seed % 7, (2, 9, 99)[seed % 3])
            for start, goal in ((0, 3), (2, 1)):
                for by, many in itertools.product(BY, range(1, 5)):
                    due = least_cost_apart(net, start, goal, many, by)
                    shown = self.found(net, start, goal, many, by)
                    self.assertEqual(shown, "none" if due is None else due, (net, start, goal, many, by))
                    seen.setdefault((by, many), [0, 0])[due is None] += 1
        self.assertGreater(min(number for row in seen.values() for number in row), 5, seen)

    def test_it_is_as_much_as_the_least_set_costs_in_nets_of_all_sizes(self):
        seen = {}
        nets = made_nets() + [ringed_net(seed, 4 + seed % 7, 30 - seed % 5, (2, 9, 99)[seed % 3]) for seed in range(80)]
        nets += [(2, tuple((0, 1, 1 + at, 0) for at in range(many))) for many in (3, 4, 30)]
        for net in nets:
            if net[0] > 1:
                for start, goal in ((0, net[0] - 1), (net[0] - 1, 0), (net[0] // 2, 0)):
                    for by, many in itertools.product(BY, range(1, 5)):
                        shown = self.found(net, start, goal, many, by)
                        ways = least_apart(net, start, goal, many=many, by=by)
                        seen.setdefault((by, many), [0, 0])[ways is None] += 1
                        if ways is None:
                            self.assertEqual(shown, "none")
                        else:
                            self.assertEqual(shown, cost_apart(net, start, goal, ways, many=many, by=by))
        self.assertGreater(min(number for row in seen.values() for number in row), 5, seen)

    def test_no_set_costs_less_than_any_bound_shows(self):
        seen = 0
        for seed in range(60):
            dice = Dice(seed)
            net = ringed_net(seed, 4 + seed % 2, 10 + seed % 3, 9)
            for by, many in itertools.product(BY, (1, 2, 3)):
                costs = [sum(cost(net, way) for way in ways) for ways in sets_apart(net, 0, 2, many, by)]
                bounds = [fitting(net, drawn_pairs(net, 0, 2, by, dice, -5)) for _ in range(5)]
                best = bound_of(net, 0, 2, many=many, by=by)
                if best[0] == "bound":
                    for place in range(net[0]):
                        pair = (best[1][place][0] + 1, best[1][place][1] + 1)
                        bounds.append(fitting(net, with_part(best[1], place, pair)))
                for thing in bounds:
                    shown = bound_shows(net, 0, 2, thing, many=many, by=by)
                    self.assertEqual(shown, bound_number(net, 0, 2, thing, many, by))
                    if costs and shown is not None:
                        seen += 1
                        self.assertGreaterEqual(min(costs), shown)
        self.assertGreater(seen, 1000)


def is_tuples_of_numbers(thing):
    """Whether a thing is made of tuples and whole numbers all through."""
    if type(thing) is tuple:
        return all(is_tuples_of_numbers(part) for part in thing)
    return type(thing) is int


class Asking(unittest.TestCase):
    def test_names_of_the_arguments(self):
        left_out = {"many": 2, "by": "roads"}
        self.assertEqual(parameters(bound_shows), (["net", "start", "goal", "thing"], ["many", "by"], left_out))
        self.assertEqual(parameters(bound_of), (["net", "start", "goal"], ["many", "by"], left_out))
        with self.assertRaises(TypeError):
            bound_of(TRAP, 0, 3, 2)
        with self.assertRaises(TypeError):
            bound_shows(TRAP, 0, 3, (), 2, "roads")

    def test_by_names_in_another_order(self):
        thing = bound_of(by="places", many=2, goal=3, start=0, net=TRAP)
        self.assertEqual(thing, bound_of(TRAP, 0, 3, many=2, by="places"))
        self.assertEqual(bound_shows(by="places", many=2, thing=thing, goal=3, start=0, net=TRAP), 12)
        self.assertEqual(bound_shows(thing=("cut", (), ()), goal=0, start=3, net=TRAP), "none")

    def test_asked_twice_the_same_is_told(self):
        net = ringed_net(5, 6, 14, 2)
        for by, many in itertools.product(BY, range(1, 5)):
            first = bound_of(net, 0, 3, many=many, by=by)
            bound_of(TRAP, 0, 3, many=many, by=by)
            with self.assertRaises(NoMany):
                bound_of(net, 0, 3, many=5, by=by)
            with self.assertRaises(NoWord):
                bound_shows(net, 0, 3, first, many=many, by="x")
            with self.assertRaises(NoPlace):
                bound_shows(net, 0, 0, first, many=many, by=by)
            self.assertEqual(bound_of(net, 0, 3, many=many, by=by), first)
            self.assertEqual(bound_of(copy.deepcopy(net), 0, 3, many=many, by=by), first)
            shown = bound_shows(net, 0, 3, first, many=many, by=by)
            self.assertEqual(bound_shows(net, 0, 3, copy.deepcopy(first), many=many, by=by), shown)

    def test_nothing_hangs_on_what_was_handed_in_earlier(self):
        thing = list(bound_of(TRAP, 0, 3))
        self.assertIs(bound_shows(TRAP, 0, 3, thing), None)
        self.assertEqual(bound_shows(TRAP, 0, 3, tuple(thing)), 12)
        thing.pop()
        self.assertIs(bound_shows(TRAP, 0, 3, tuple(thing)), None)


if __name__ == "__main__":
    unittest.main()
