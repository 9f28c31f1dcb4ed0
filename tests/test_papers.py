"""Points 31, 32 and 33, and points 2, 3, 4 as they bear on them."""

import copy
import itertools
import unittest

from reckoning import all_simple, are_priced, beginnings, cost, greatest, looked, paper_for, stops
from samples import NET, Dice, made_net, made_nets, odd_things, parameters, ringed_net, variants, with_part
from waysranked.errors import NoMany, NoNet, NoPlace
from waysranked.papers import paper_of, shown_by
from waysranked.prices import prices_of
from waysranked.simple import least_simple

# From 0 to 2: (0, 1) for 2, (0, 3) for 4, (2,) for 5.
THREE = (3, ((0, 1, 1, 0), (1, 2, 1, 0), (0, 2, 5, 0), (1, 2, 3, 0)))
# From 0 to 3: (0, 1) for 2, (2, 3) for 5.
TWO = (4, ((0, 1, 1, 0), (1, 3, 1, 0), (0, 2, 1, 0), (2, 3, 4, 0)))
# From 0 to 3: (0, 1) for 2 alone; 2 leads nowhere.
END = (4, ((0, 1, 1, 0), (1, 3, 1, 0), (0, 2, 1, 0)))
# From 0 to 3 seven ways, all for 3.
LIKE = (
    4,
    ((0, 1, 1, 0), (0, 1, 1, 0), (1, 2, 1, 0), (2, 3, 1, 0), (1, 3, 2, 0), (3, 0, 1, 0), (0, 3, 3, 0), (2, 3, 1, 0)),
)
# Three roads from each place to the next one: 3 ** 9 simple ways from 0 to 9.
LADDER = (10, tuple((at, at + 1, 1 + turn, turn) for at in range(9) for turn in range(3)))

# A net, a start and a goal with several ways of unlike costs.
MIXED = (made_net(8, 6, 14, 9), 1, 3)


class Looked(unittest.TestCase):
    def told(self, due, net, start, goal, told, paper):
        before = repr((net, start, goal, told, paper))
        shown = shown_by(net, start, goal, told, paper)
        if due is None:
            self.assertIs(shown, None, before[:500])
        else:
            self.assertIs(type(shown), str, before[:500])
            self.assertEqual(shown, due, before[:500])
        self.assertEqual(repr((net, start, goal, told, paper)), before)

    def alike(self, net, start, goal, told, paper):
        """As the test itself looks; what it saw."""
        due = looked(net, start, goal, told, paper)
        self.told(due, net, start, goal, told, paper)
        return due


class ByHand(Looked):
    def test_three_ways(self):
        paper = (((), (None, 1, 0)), ((0,), (None, None, 0)))
        self.told("least", THREE, 0, 2, ((0, 1),), paper)
        self.told("least", THREE, 0, 2, ((0, 1), (0, 3)), paper)
        self.told("all", THREE, 0, 2, ((0, 1), (0, 3), (2,)), paper)
        # (0, 3) is left out, or (0, 1), which cost less than the last one.
        self.told(None, THREE, 0, 2, ((0, 1), (2,)), paper)
        self.told(None, THREE, 0, 2, ((0, 3),), paper)
        self.told(None, THREE, 0, 2, ((0, 3), (2,)), paper)
        self.told(None, THREE, 0, 2, ((2,),), paper[:1])
        self.told(None, THREE, 0, 2, ((2,),), paper)
        # Not rising by their costs.
        self.told(None, THREE, 0, 2, ((0, 3), (0, 1)), paper)
        self.told(None, THREE, 0, 2, ((0, 1), (2,), (0, 3)), paper)

    def test_they_rise_by_cost_ahead_of_tuples(self):
        net = (2, ((0, 1, 9, 0), (0, 1, 8, 0)))
        paper = (((), (None, 0)),)
        self.told("all", net, 0, 1, ((1,), (0,)), paper)
        self.told(None, net, 0, 1, ((0,), (1,)), paper)
        self.told("least", net, 0, 1, ((1,),), paper)
        self.told(None, net, 0, 1, ((0,),), paper)

    def test_rows_rise_as_tuples_compare(self):
        # The beginning (0,) costs more than (2,) does.
        net = (4, ((0, 1, 9, 0), (1, 3, 1, 0), (0, 2, 1, 0), (2, 3, 1, 0)))
        rows = (((), (None, 1, 1, 0)), ((0,), (None, None, 1, 0)), ((2,), (None, 1, None, 0)))
        for order in itertools.permutations(rows):
            self.told("all" if order == rows else None, net, 0, 3, ((2, 3), (0, 1)), order)

    def test_lesser_prices_show_less(self):
        for price, due in ((4, "least"), (3, "least"), (1, "least"), (0, None), (5, None), (-1, None), (None, None)):
            paper = (((), (None, 1, price, 0)), ((0,), (None, None, price, 0)))
            self.told(due, TWO, 0, 3, ((0, 1),), paper)
        for price, due in ((4, "all"), (1, "all"), (0, "all"), (5, None), (None, None)):
            paper = (((), (None, 1, price, 0)), ((0,), (None, None, price, 0)), ((2,), (None, 1, None, 0)))
            self.told(due, TWO, 0, 3, ((0, 1), (2, 3)), paper)

    def test_a_number_where_no_way_leads_to_the_goal(self):
        for price, due in ((None, "all"), (5, "least"), (1, "least"), (10 ** 29, "least"), (0, None)):
            paper = (((), (None, 1, price, 0)), ((0,), (None, None, None, 0)))
            self.told(due, END, 0, 3, ((0, 1),), paper)

    def test_the_cost_of_the_beginning_counts(self):
        # From 0 to 3: (0, 1) for 6, (0, 2) for 7, and nothing else; the part of (0,) costs 5 + 2.
        net = (4, ((0, 1, 5, 0), (1, 3, 1, 0), (1, 3, 2, 0)))
        paper = (((), (None, 1, None, 0)), ((0,), (None, None, None, 0)))
        self.told("least", net, 0, 3, ((0, 1),), paper)
        self.told("all", net, 0, 3, ((0, 1), (0, 2)), paper)
        self.told(None, net, 0, 3, ((0, 2),), paper)

    def test_ways_of_like_costs_may_be_left_out(self):
        ways = [(0, 2, 3), (0, 2, 7), (0, 4), (1, 2, 3), (1, 2, 7), (1, 4), (6,)]
        for many in range(1, 8):
            for told in itertools.combinations(ways, many):
                self.told("least" if many < 7 else "all", LIKE, 0, 3, told, paper_for(LIKE, 0, 3, told))
                self.told(None, LIKE, 0, 3, (told[-1], *told), paper_for(LIKE, 0, 3, told))

    def test_nothing_told(self):
        # There is the part of (): of it None shows that there is no more, otherwise nothing is told to be least.
        self.told("all", (2, ()), 0, 1, (), (((), (None, 0)),))
        self.told("all", NET, 0, 4, (), (((), (None, None, None, None, 0)),))
        self.told("all", NET, 3, 0, (), (((), greatest(NET, 0, (3,))),))
        self.told(None, THREE, 0, 2, (), (((), (None, 1, 0)),))
        self.told(None, NET, 0, 4, (), (((), (None, 0, 0, 0, 0)),))
        for net, start, goal in (((2, ()), 0, 1), (NET, 0, 4), (THREE, 0, 2)):
            self.told(None, net, start, goal, (), ())
            self.told(None, net, start, goal, ((),), ())
            self.told(None, net, start, goal, ((),), paper_for(net, start, goal, ()))

    def test_start_and_goal_one(self):
        for net in (NET, THREE, (1, ()), (10, ())):
            for place in range(net[0]):
                self.told("all", net, place, place, ((),), ())
                self.told(None, net, place, place, (), ())
                for shut in ((), (place,)):
                    prices = tuple(None if at in shut else 0 for at in range(net[0]))
                    for told in ((), ((),)):
                        self.told(None, net, place, place, told, (((), prices),))
                for told in ([()], ((), ()), [], ((0,),), ([],), None, "all", True, 0, {}):
                    self.told(None, net, place, place, told, ())
                for paper in ([], None, ((),), {}, "", False, 0):
                    self.told(None, net, place, place, ((),), paper)
        self.told(None, NET, 0, 0, ((), (0, 1, 2)), ())
        self.told(None, NET, 0, 0, ((0, 1, 2),), ())

    def test_truths_are_no_numbers(self):
        paper = (((), (None, 1, 0)), ((0,), (None, None, 0)))
        self.told("least", THREE, 0, 2, ((0, 1),), paper)
        self.told(None, THREE, 0, 2, ((False, 1),), paper)
        self.told(None, THREE, 0, 2, ((0, True),), paper)
        self.told(None, THREE, 0, 2, ((0, 1),), (((), (None, True, 0)), paper[1]))
        self.told(None, THREE, 0, 2, ((0, 1),), (((), (None, 1, False)), paper[1]))
        self.told(None, THREE, 0, 2, ((0, 1),), (paper[0], ((False,), (None, None, 0))))


class ToldLists(Looked):
    def test_all_told_lists_of_few_ways(self):
        # With the greatest prices a part costs what its least way costs.
        seen = {"all": 0, "least": 0, None: 0}
        for net, start, goal in ((THREE, 0, 2), (LIKE, 0, 3), (ringed_net(0, 5, 12, 4), 0, 4), MIXED):
            ways = all_simple(net, start, goal)[:8]
            rest = all_simple(net, start, goal)[8:]
            for many in range(len(ways) + 1):
                for told in itertools.combinations(ways, many):
                    left = [way for way in ways + rest if way not in told]
                    due = "all" if not left else None
                    if left and told and cost(net, left[0]) >= cost(net, told[-1]):
                        due = "least"
                    seen[due] += 1
                    paper = paper_for(net, start, goal, told)
                    self.assertEqual(looked(net, start, goal, told, paper), due)
                    self.told(due, net, start, goal, told, paper)
                    if many > 1:
                        self.told(None, net, start, goal, told[::-1], paper)
                        self.told(None, net, start, goal, (*told[1:], told[0]), paper)
                    if many:
                        self.told(None, net, start, goal, (*told, told[-1]), paper)
                        self.told(None, net, start, goal, list(told), paper)
                        self.told(None, net, start, goal, (list(told[0]), *told[1:]), paper)
                        self.told(None, net, start, goal, told, list(paper))
        self.assertGreaterEqual(seen["all"], 3)
        self.assertGreater(min(seen["least"], seen[None]), 50)

    def test_twelve_at_most(self):
        ways = tuple(all_simple(LADDER, 0, 9)[:14])
        for many in (11, 12):
            self.told("least", LADDER, 0, 9, ways[:many], paper_for(LADDER, 0, 9, ways[:many]))
        for many in (13, 14):
            self.told(None, LADDER, 0, 9, ways[:many], paper_for(LADDER, 0, 9, ways[:many]))
        net = (2, tuple((0, 1, 1 + at, 0) for at in range(13)))
        ways = tuple((at,) for at in range(13))
        self.told("least", net, 0, 1, ways[:12], (((), (None, 0)),))
        self.told(None, net, 0, 1, ways, (((), (None, 0)),))
        self.told("all", (2, net[1][:12]), 0, 1, ways[:12], (((), (None, 0)),))

    def test_ways_that_are_not_simple_or_lead_elsewhere(self):
        net = (4, ((0, 1, 1, 0), (1, 0, 1, 0), (1, 3, 9, 0), (1, 2, 1, 0), (2, 1, 1, 0), (3, 1, 1, 0)))
        good = paper_for(net, 0, 3, ((0, 2),))
        self.told("all", net, 0, 3, ((0, 2),), good)
        for odd in ((0, 1, 0, 2), (0, 3, 4, 2), (0, 2, 5, 2), (0,), (0, 3), (2,), (), (0, 2, 5), (3, 4, 2), (0, 6),
                    (-6, 2)):
            for told in ((odd,), ((0, 2), odd), (odd, (0, 2))):
                for paper in (good, (), good + good[-1:]):
                    self.alike(net, 0, 3, told, paper)
                    self.told(None, net, 0, 3, told, paper)
        # Each has its own rows.
        told = ((0, 2), (0, 1, 0, 2))
        paper = tuple((way, greatest(net, 3, tuple(sorted(set(stops(net, 0, way)))))) for way in beginnings(0, 3, told))
        self.told(None, net, 0, 3, told, paper)

    def test_variants(self):
        seen = {"all": 0, "least": 0, None: 0}
        for net, start, goal, many in ((THREE, 0, 2, 2), (LIKE, 0, 3, 5), (*MIXED, 3), (NET, 0, 3, 2)):
            told = tuple(all_simple(net, start, goal)[:many])
            paper = paper_for(net, start, goal, told)
            for other in variants(told, odd_things()):
                seen[self.alike(net, start, goal, other, paper)] += 1
            # Where the variant is a told list itself, with a paper of its own.
            for other in variants(told, [()]):
                own = own_paper(net, start, goal, other)
                if own is not None:
                    seen[self.alike(net, start, goal, other, own)] += 1
        self.assertGreater(seen[None], 1000)
        self.assertGreater(seen["least"], 10)


def own_paper(net, start, goal, told):
    """A paper of a thing, where it is a tuple of ways at all, else None."""
    ways = all_simple(net, start, goal)
    if type(told) is not tuple or not all(type(way) is tuple and way in ways for way in told):
        return None
    return paper_for(net, start, goal, told)


class Papers(Looked):
    def samples(self):
        nets = [(THREE, 0, 2, 1), (THREE, 0, 2, 3), (LIKE, 0, 3, 3), (LIKE, 0, 3, 12), (TWO, 0, 3, 1), (TWO, 0, 3, 2),
                (END, 0, 3, 3), (NET, 0, 3, 1), (NET, 0, 4, 3), (*MIXED, 2), (NET, 2, 2, 1)]
        for net, start, goal, many in nets:
            told = tuple(all_simple(net, start, goal)[:many])
            yield net, start, goal, told, paper_for(net, start, goal, told)

    def test_variants(self):
        seen = {"all": 0, "least": 0, None: 0}
        for net, start, goal, told, paper in self.samples():
            self.assertIsNotNone(self.alike(net, start, goal, told, paper))
            for other in variants(paper, odd_things()):
                seen[self.alike(net, start, goal, told, other)] += 1
        self.assertGreater(seen[None], 5000)
        self.assertGreater(min(seen.values()), 50, seen)

    def test_a_row_out_more_twice_or_elsewhere(self):
        for net, start, goal, told, paper in self.samples():
            for at, row in enumerate(paper):
                self.told(None, net, start, goal, told, paper[:at] + paper[at + 1:])
                self.told(None, net, start, goal, told, paper[:at] + (row, row) + paper[at + 1:])
                for other in range(at):
                    moved = with_part(with_part(paper, at, paper[other]), other, row)
                    self.told(None, net, start, goal, told, moved)
                self.told(None, net, start, goal, told, with_part(paper, at, list(row)))
                self.told(None, net, start, goal, told, with_part(paper, at, (*row, None)))
                self.told(None, net, start, goal, told, with_part(paper, at, row[:1]))
                self.told(None, net, start, goal, told, with_part(paper, at, (list(row[0]), row[1])))
                self.told(None, net, start, goal, told, with_part(paper, at, (row[0], list(row[1]))))
            if paper:
                self.told(None, net, start, goal, told, list(paper))
            # A row of a told way itself: it is no beginning of itself that is due.
            for way in told:
                row = (way, (None,) * net[0])
                self.told(None, net, start, goal, told, tuple(sorted((*paper, row), key=lambda one: one[0])))

    def test_a_row_of_another_beginning(self):
        told = ((0, 1),)
        paper = (((), (None, 1, 4, 0)), ((0,), (None, None, 4, 0)))
        self.told("least", TWO, 0, 3, told, paper)
        for odd in ((2,), (1,), (0, 1), (), (3,), (-4,), (9,), 0, [0], "0", None, (False,), (0, 0), ((0,),)):
            for prices in ((None, None, 4, 0), (None, 1, None, 0), (None, 1, 4, 0)):
                self.told(None, TWO, 0, 3, told, (paper[0], (odd, prices)))

    def test_prices(self):
        for net, start, goal, told, paper in self.samples():
            for at, (way, prices) in enumerate(paper):
                shut = stops(net, start, way)
                for place, price in enumerate(prices):
                    if place in shut:
                        for odd in (0, 1, 99, False):
                            self.told(None, net, start, goal, told,
                                      with_part(paper, at, (way, with_part(prices, place, odd))))
                    elif price is not None:
                        for odd in (price + 1, 10 ** 29, None, -1, True, str(price)):
                            if not are_priced(net, goal, with_part(prices, place, odd), shut):
                                self.told(None, net, start, goal, told,
                                          with_part(paper, at, (way, with_part(prices, place, odd))))
                for odd in (prices[:-1], (*prices, None), (*prices, 0), prices[1:], ()):
                    self.told(None, net, start, goal, told, with_part(paper, at, (way, odd)))
                if greatest(net, goal) != prices:
                    # Prices of the same goal, but with nothing shut.
                    self.told(None, net, start, goal, told, with_part(paper, at, (way, greatest(net, goal))))

    def test_lesser_prices_against_all_ways(self):
        # Whatever prices a paper has, what it shows is so.
        seen = {"all": 0, "least": 0, None: 0}
        for seed in range(150):
            dice = Dice(seed)
            net = ringed_net(seed, 4 + seed % 4, 12, (3, 20)[seed % 2])
            ways = all_simple(net, 0, 3)
            told = tuple(ways[:1 + dice.below(len(ways))][:12])
            if dice.below(3) == 0:
                told = tuple(way for way in told if dice.below(6))
            paper = paper_for(net, 0, 3, told, lambda net, goal, shut: lessened(net, goal, shut, dice))
            shown = self.alike(net, 0, 3, told, paper)
            left = [way for way in ways if way not in told]
            if shown == "all":
                self.assertEqual(left, [])
            if shown == "least":
                self.assertTrue(all(cost(net, way) >= cost(net, told[-1]) for way in left))
            seen[shown] += 1
        self.assertGreater(min(seen.values()), 10, seen)

    def test_things_of_whatever_kind_for_either(self):
        for net, start, goal, told, paper in self.samples():
            for odd in odd_things():
                # Where start and goal are one, ((),) among them is the told list itself.
                if odd != told:
                    self.told(None, net, start, goal, odd, paper)
                self.told(None, net, start, goal, told, odd)
                for other in (*odd_things(), ()):
                    self.alike(net, start, goal, odd, other)

    def test_what_was_told_the_other_way_round(self):
        for net, start, goal, told, paper in self.samples():
            self.alike(net, start, goal, paper, told)
            self.alike(net, start, goal, paper, paper)
            self.alike(net, start, goal, told, told)
            self.alike(net, start, goal, told * 2, paper * 2)


def lessened(net, goal, shut, dice):
    """Prices that are the greatest or somewhat less."""
    prices = greatest(net, goal, shut)
    for _ in range(2):
        place = dice.below(net[0])
        if prices[place]:
            less = with_part(prices, place, dice.below(prices[place]))
            prices = less if are_priced(net, goal, less, shut) else prices
    return prices


class Found(Looked):
    def found(self, net, start, goal, many, ways):
        before = repr((net, start, goal, many))
        made = paper_of(net, start, goal, many=many)
        self.assertIs(type(made), tuple)
        told, paper = made
        self.assertIs(type(told), tuple)
        self.assertIs(type(paper), tuple)
        self.assertEqual(told, tuple(ways[:many]), before)
        self.assertEqual(list(told), least_simple(net, start, goal, many=many))
        self.assertEqual(paper, paper_for(net, start, goal, told), before)
        self.assertEqual([row[0] for row in paper], beginnings(start, goal, told))
        for way, prices in paper:
            shut = tuple(sorted(stops(net, start, way)))
            self.assertEqual(prices, prices_of(net, goal, shut=shut))
        self.told("all" if len(ways) <= many else "least", net, start, goal, told, paper)
        self.assertEqual(repr((net, start, goal, many)), before)

    def test_three_ways(self):
        paper = (((), (None, 1, 0)), ((0,), (None, None, 0)))
        self.assertEqual(paper_of(THREE, 0, 2), (((0, 1), (0, 3), (2,)), paper))
        self.assertEqual(paper_of(THREE, 0, 2, many=2), (((0, 1), (0, 3)), paper))
        self.assertEqual(paper_of(THREE, 0, 2, many=1), (((0, 1),), paper))
        self.assertEqual(paper_of(TWO, 0, 3, many=1), (((0, 1),), (((), (None, 1, 4, 0)), ((0,), (None, None, 4, 0)))))

    def test_nothing_to_tell(self):
        self.assertEqual(paper_of((2, ()), 0, 1), ((), (((), (None, 0)),)))
        self.assertEqual(paper_of(NET, 0, 4), ((), (((), (None, None, None, None, 0)),)))
        self.assertEqual(paper_of(NET, 3, 2), ((), (((), (5 + 2, 5, 0, None, None)),)))

    def test_start_and_goal_one(self):
        for net in (NET, THREE, (1, ()), (10, ())):
            for place in range(net[0]):
                for many in (1, 2, 12):
                    self.assertEqual(paper_of(net, place, place, many=many), (((),), ()))
                self.assertEqual(paper_of(net, place, place), (((),), ()))

    def test_each_many(self):
        for net, start, goal in ((THREE, 0, 2), (LIKE, 0, 3), (TWO, 0, 3), (END, 0, 3), (NET, 0, 3), (NET, 4, 0),
                                 MIXED, (LADDER, 0, 9), (LADDER, 2, 4), (NET, 1, 1)):
            ways = all_simple(net, start, goal)
            for many in range(1, 13):
                self.found(net, start, goal, many, ways)
            self.assertEqual(paper_of(net, start, goal), paper_of(net, start, goal, many=3))

    def test_all_just_where_there_is_no_more(self):
        for many in range(1, 13):
            for ways in range(1, 14):
                net = (2, tuple((0, 1, 1 + at // 3, 0) for at in range(ways)))
                self.found(net, 0, 1, many, [(at,) for at in range(ways)])

    def test_made_nets(self):
        for net in made_nets():
            if net[0] < 7:
                for start, goal in itertools.product(range(net[0]), repeat=2):
                    ways = all_simple(net, start, goal)
                    for many in (1, 3, 12):
                        self.found(net, start, goal, many, ways)

    def test_great_nets(self):
        for seed in range(40):
            net = ringed_net(seed, 8 + seed % 3, 30 - seed % 7, (2, 4, 99)[seed % 3])
            start, goal = seed % net[0], seed * 3 % net[0]
            ways = all_simple(net, start, goal)
            for many in (1, 4, 12):
                self.found(net, start, goal, many, ways)


class Refused(unittest.TestCase):
    def refused(self, kind, asked, *arguments, **named):
        before = repr((arguments, named))
        with self.assertRaises(kind, msg=before[:300]) as caught:
            asked(*arguments, **named)
        self.assertIs(type(caught.exception), kind)
        self.assertEqual(repr((arguments, named)), before)

    def test_no_net_whatever_stands_behind_it(self):
        for odd in (*odd_things(), (), 5, list(NET), (11, ()), (True, ())):
            for place in (0, -1, None, True, odd):
                for last in (1, 0, None, (), odd):
                    self.refused(NoNet, shown_by, odd, place, place, last, last)
                    self.refused(NoNet, paper_of, odd, place, place, many=last)

    def test_then_no_place_whatever_stands_behind_it(self):
        for net in (NET, (1, ()), (10, ())):
            for odd in (*odd_things(), (), (0,), net[0], net[0] + 1, -net[0]):
                for last in (1, 0, None, (), odd):
                    for start, goal in ((odd, 0), (0, odd), (odd, odd)):
                        self.refused(NoPlace, shown_by, net, start, goal, last, last)
                        self.refused(NoPlace, paper_of, net, start, goal, many=last)

    def test_then_no_many(self):
        for start, goal in ((0, 3), (3, 0), (2, 2)):
            for odd in (*odd_things(), 0, 13, 14, -1, 40, True, False, None, "3", "", (3,), [3]):
                self.refused(NoMany, paper_of, NET, start, goal, many=odd)


class Asking(unittest.TestCase):
    def test_names_of_the_arguments(self):
        self.assertEqual(parameters(shown_by), (["net", "start", "goal", "told", "paper"], [], {}))
        self.assertEqual(parameters(paper_of), (["net", "start", "goal"], ["many"], {"many": 3}))
        with self.assertRaises(TypeError):
            paper_of(NET, 0, 3, 3)

    def test_by_names_in_another_order(self):
        made = paper_of(many=2, goal=2, start=0, net=THREE)
        self.assertEqual(made, paper_of(THREE, 0, 2, many=2))
        self.assertEqual(shown_by(paper=made[1], told=made[0], goal=2, start=0, net=THREE), "least")
        self.assertIs(shown_by(paper=made[0], told=made[1], goal=2, start=0, net=THREE), None)
        for asked, named in ((shown_by, {"told": None, "paper": None}), (paper_of, {"many": None})):
            with self.assertRaises(NoNet):
                asked(**named, goal=None, start=None, net=None)
            with self.assertRaises(NoPlace):
                asked(**named, goal=None, start=0, net=NET)

    def test_asked_twice_the_same_is_told(self):
        first = paper_of(LIKE, 0, 3, many=5)
        paper_of(THREE, 0, 2)
        with self.assertRaises(NoMany):
            paper_of(LIKE, 0, 3, many=13)
        self.assertEqual(paper_of(LIKE, 0, 3, many=5), first)
        self.assertEqual(paper_of(copy.deepcopy(LIKE), 0, 3, many=5), first)
        for _ in range(2):
            self.assertEqual(shown_by(LIKE, 0, 3, *first), "least")
            self.assertEqual(shown_by(LIKE, 0, 3, *copy.deepcopy(first)), "least")

    def test_nothing_hangs_on_what_was_handed_in_earlier(self):
        told, paper = (list(part) for part in paper_of(THREE, 0, 2))
        self.assertIs(shown_by(THREE, 0, 2, told, paper), None)
        self.assertEqual(shown_by(THREE, 0, 2, tuple(told), tuple(paper)), "all")
        told.pop()
        self.assertEqual(shown_by(THREE, 0, 2, tuple(told), tuple(paper)), "least")
        paper.pop()
        self.assertIs(shown_by(THREE, 0, 2, tuple(told), tuple(paper)), None)


if __name__ == "__main__":
    unittest.main()
