"""Points 60, 61 and 62, and points 2, 3, 4 as they bear on them."""

import copy
import itertools
import unittest

from reckoning import all_simple, behind, cost, paper_for, renet, renumbered
from samples import NET, Dice, check_refusals, made_net, made_nets, odd_things, parameters, ringed_net, with_part
from waysranked.changes import changed, paper_behind, span_of, way_behind
from waysranked.errors import NoChange, NoMany, NoNet, NoPaper, NoPlace, NoRoad, NoWay
from waysranked.nets import is_net
from waysranked.papers import paper_of, shown_by
from waysranked.simple import least_simple

# From 0 to 2: (0, 1) for 2, (0, 3) for 4, (2,) for 5.
THREE = (3, ((0, 1, 1, 0), (1, 2, 1, 0), (0, 2, 5, 0), (1, 2, 3, 0)))
# From 0 to 3: (0, 1) for 2 alone; 2 leads nowhere, and no way has the last two roads.
END = (4, ((0, 1, 1, 0), (1, 3, 1, 0), (0, 2, 1, 0), (3, 2, 4, 0)))


def no_changes(net):
    """What is no change of the net."""
    last = len(net[1]) - 1
    odd = odd_things() + [(), (0,), (0, 1, 1), [0, 1], {0: 1}, "01", None, 0, True, ((0, 1),), (None, None)]
    odd += [(last, 0), (last, 100), (last, -1), (last + 1, 5), (last + 1, None), (-1, 5), (-1, None), (-last - 1, 5)]
    odd += [(True, 5), (False, 5), (None, 5), ("0", 5), ([0], 5), ((0,), 5), ({}, 5), (10 ** 29, 5)]
    odd += [(0, True), (0, False), (0, "5"), (0, ""), (0, [5]), (0, (5,)), (0, {}), (0, ()), (0, 10 ** 29)]
    return odd + [(0, -(10 ** 29))]


class Changed(unittest.TestCase):
    def told(self, net, change):
        before = repr((net, change))
        told = changed(net, change)
        self.assertIs(type(told), tuple)
        self.assertIs(is_net(told), True)
        self.assertEqual(told, renet(net, *change), before)
        self.assertEqual(repr((net, change)), before)

    def test_by_hand(self):
        net = (3, ((0, 1, 5, 7), (1, 2, 6, 8), (2, 0, 7, 9)))
        self.assertEqual(changed(net, (1, 9)), (3, ((0, 1, 5, 7), (1, 2, 9, 8), (2, 0, 7, 9))))
        self.assertEqual(changed(net, (0, None)), (3, ((1, 2, 6, 8), (2, 0, 7, 9))))
        self.assertEqual(changed(net, (1, None)), (3, ((0, 1, 5, 7), (2, 0, 7, 9))))
        self.assertEqual(changed(net, (2, None)), (3, ((0, 1, 5, 7), (1, 2, 6, 8))))
        self.assertEqual(changed((2, ((0, 1, 1, 0),)), (0, None)), (2, ()))
        self.assertEqual(changed(net, (1, 6)), net)

    def test_each_road(self):
        for net in made_nets():
            for road, (_, _, own, _) in enumerate(net[1]):
                for price in (1, 99, own, 50, None):
                    self.told(net, (road, price))

    def test_what_is_told_may_be_changed_again(self):
        net = made_net(3, 10, 30)
        for left in range(30, 0, -1):
            self.assertEqual(len(net[1]), left)
            self.told(net, (left // 2, 99))
            self.told(net, (left - 1, None))
            net = changed(net, (left * 7 % left, None))
        self.assertEqual(net, (10, ()))


class Ways(unittest.TestCase):
    def told(self, due, net, way, change):
        before = repr((net, way, change))
        told = way_behind(net, way, change)
        self.assertEqual(told, due, before)
        self.assertIs(type(told), type(due))
        self.assertTrue(due is None or all(type(road) is int for road in told))
        self.assertEqual(repr((net, way, change)), before)

    def test_by_hand(self):
        # Also what is no way of the net.
        for way in ((), (0,), (1, 3), (3, 2, 1, 0), (1, 1, 1), (3,) * 40):
            for price in (1, 99, 5):
                self.told(way, THREE, way, (1, price))
        self.told((), THREE, (), (1, None))
        self.told((0,), THREE, (0,), (1, None))
        self.told(None, THREE, (1,), (1, None))
        self.told((1, 2), THREE, (2, 3), (1, None))
        self.told((2, 1, 0), THREE, (3, 2, 0), (1, None))
        self.told(None, THREE, (3, 2, 1, 0), (1, None))
        self.told((2, 0, 2), THREE, (3, 1, 3), (0, None))
        self.told((0, 1, 2), THREE, (0, 1, 2), (3, None))
        self.told(None, THREE, (0, 1, 3), (3, None))

    def test_the_same_roads(self):
        for seed in range(60):
            dice = Dice(seed)
            net = made_net(seed, 10, 30)
            way = tuple(dice.below(30) for _ in range(dice.below(9)))
            road = dice.below(30)
            for price in (None, 7):
                self.told(renumbered(way, road, price), net, way, (road, price))
                told = way_behind(net, way, (road, price))
                if price is None and told is not None:
                    roads = changed(net, (road, None))[1]
                    self.assertEqual([roads[number] for number in told], [net[1][number] for number in way])


class Papers(unittest.TestCase):
    def told(self, due, net, start, goal, told, paper, change):
        before = repr((net, start, goal, told, paper, change))
        shown = paper_behind(net, start, goal, told, paper, change)
        self.assertEqual(shown, due, before[:600])
        if due is not None:
            self.assertEqual([type(part) for part in shown], [tuple, tuple, str])
            self.assertIs(type(shown), tuple)
            self.assertEqual(shown_by(changed(net, change), start, goal, *shown[:2]), shown[2])
        self.assertEqual(repr((net, start, goal, told, paper, change)), before)

    def alike(self, net, start, goal, told, paper, change):
        due = behind(net, start, goal, told, paper, *change)
        self.told(due, net, start, goal, told, paper, change)
        return due

    def test_by_hand(self):
        told, paper = paper_of(THREE, 0, 2, many=2)
        self.assertEqual((told, shown_by(THREE, 0, 2, told, paper)), (((0, 1), (0, 3)), "least"))
        self.assertEqual(paper, (((), (None, 1, 0)), ((0,), (None, None, 0))))
        # What is left out may be dearer, and cheaper as far as (0, 3) costs.
        for price in (99, 6, 5, 4):
            self.told((told, paper, "least"), THREE, 0, 2, told, paper, (2, price))
        for price in (3, 1):
            self.told(None, THREE, 0, 2, told, paper, (2, price))
        # Without it there is no more.
        self.told((((0, 1), (0, 2)), paper, "all"), THREE, 0, 2, told, paper, (2, None))
        # A told way is gone.
        for road in (0, 1, 3):
            self.told(None, THREE, 0, 2, told, paper, (road, None))
        # The told ones rise no more; as tuples compare they do at like costs.
        self.told((told, paper, "least"), THREE, 0, 2, told, paper, (3, 1))
        self.told(None, THREE, 0, 2, told, paper, (1, 4))
        # From 1 the price is 1: where road 1 and 3 are dearer it is one still, though no more the greatest.
        self.told((told, paper, "least"), THREE, 0, 2, told, paper, (1, 3))
        self.told((told, paper, "least"), THREE, 0, 2, told, paper, (3, 4))
        self.told(None, THREE, 0, 2, told, paper, (3, 5))
        self.told((told, paper, "least"), THREE, 0, 2, told, paper, (0, 2))
        self.told(None, THREE, 0, 2, told, paper, (0, 3))

    def test_prices_that_are_none_in_the_new_net(self):
        told, paper = paper_of(END, 0, 3, many=1)
        self.assertEqual(paper[0], ((), (None, 1, None, 0)))
        self.told((told, paper, "all"), END, 0, 3, told, paper, (2, 50))
        net = (4, ((0, 1, 1, 0), (1, 3, 5, 0), (0, 2, 9, 0), (2, 3, 9, 0)))
        told, paper = paper_of(net, 0, 3, many=1)
        self.assertEqual(paper[0], ((), (None, 5, 9, 0)))
        # 9 is too much for place 2 where road 3 costs less, whatever the least way is.
        self.told(None, net, 0, 3, told, paper, (3, 8))
        self.told((told, paper, "least"), net, 0, 3, told, paper, (3, 10))
        self.told(None, net, 0, 3, told, paper, (1, 4))
        self.told((told, paper, "least"), net, 0, 3, told, paper, (1, 6))

    def test_all_ahead_and_behind(self):
        # Nothing told: the goal cannot be come to, and that stays so; but prices may be none where a road is cheaper.
        for net, start, goal in ((NET, 3, 0), (NET, 0, 4), ((3, ((0, 1, 1, 0),)), 0, 2)):
            told, paper = paper_of(net, start, goal)
            for road, price in itertools.product(range(len(net[1])), (99, None)):
                self.assertEqual(self.alike(net, start, goal, told, paper, (road, price)), ((), paper, "all"))
            for road in range(len(net[1])):
                self.alike(net, start, goal, told, paper, (road, 1))
        self.told(None, NET, 3, 0, *paper_of(NET, 3, 0), (2, 6))
        # Start and goal one.
        for net in (NET, THREE):
            for road, price in itertools.product(range(len(net[1])), (1, 99, None)):
                self.told((((),), (), "all"), net, 1, 1, ((),), (), (road, price))

    def test_least_of_all_and_all_of_least(self):
        # A paper with a number for place 2, from which no way leads on, shows "least" alone.
        paper = (((), (None, 1, 8, 0)), ((0,), (None, None, 8, 0)))
        self.assertEqual(shown_by(END, 0, 3, ((0, 1),), paper), "least")
        self.told((((0, 1),), paper, "all"), END, 0, 3, ((0, 1),), paper, (2, None))
        self.told((((0, 1),), paper, "least"), END, 0, 3, ((0, 1),), paper, (2, 1))
        self.told((((0, 1),), paper, "least"), END, 0, 3, ((0, 1),), paper, (3, None))
        full = paper_for(END, 0, 3, ((0, 1),))
        for price in (1, 99, None):
            self.told((((0, 1),), full, "all"), END, 0, 3, ((0, 1),), full, (2, price))

    def test_roads_that_no_told_way_has(self):
        # Numbers behind a shut road are less by one, in told ways and in beginnings.
        net = (4, ((2, 0, 1, 0), (0, 1, 1, 0), (3, 0, 1, 0), (1, 2, 1, 0), (2, 3, 1, 0), (0, 3, 9, 0)))
        told, paper = paper_of(net, 0, 3, many=1)
        self.assertEqual(told, ((1, 3, 4),))
        for road, way in ((0, (0, 2, 3)), (2, (1, 2, 3)), (5, (1, 3, 4))):
            due = self.alike(net, 0, 3, told, paper, (road, None))
            self.assertEqual(due[0], (way,))
            self.assertEqual([row[0] for row in due[1]], [way[:many] for many in range(3)])
            self.assertEqual([row[1] for row in due[1]], [row[1] for row in paper])
        self.assertEqual(self.alike(net, 0, 3, told, paper, (5, None))[2], "all")

    def test_against_a_look(self):
        seen = {}
        for seed in range(60):
            dice = Dice(seed)
            net = ringed_net(seed, 4 + seed % 4, 8 + seed % 9, (3, 9, 30)[seed % 3])
            start, goal = 0, 1 + dice.below(net[0] - 1)
            for many in (1, 3, 12):
                told, paper = paper_of(net, start, goal, many=many)
                ahead = shown_by(net, start, goal, told, paper)
                for road in range(len(net[1])):
                    own = net[1][road][2]
                    for price in {None, 1, max(1, own - 1), own, own + 1, 99, 1 + dice.below(99)}:
                        due = self.alike(net, start, goal, told, paper, (road, price))
                        key = (ahead, None if due is None else due[2])
                        seen[key] = seen.get(key, 0) + 1
                        if price == own:
                            self.assertEqual(due, (told, paper, ahead))
        for key in (("least", None), ("least", "least"), ("least", "all"), ("all", "all"), ("all", None)):
            self.assertGreater(seen[key], 20, seen)

    def test_one_behind_the_other(self):
        # What was told may be handed in again, with the net that was told.
        for seed in range(40):
            dice = Dice(seed)
            net = ringed_net(seed, 5 + seed % 3, 14, 20)
            told, paper = paper_of(net, 0, 3, many=2)
            for _ in range(10):
                change = (dice.below(len(net[1])), None if dice.below(4) == 0 else 1 + dice.below(99))
                due = self.alike(net, 0, 3, told, paper, change)
                net = changed(net, change)
                told, paper = due[:2] if due else paper_of(net, 0, 3, many=2)
                left = [way for way in all_simple(net, 0, 3) if way not in told]
                if told and left:
                    self.assertGreaterEqual(cost(net, left[0]), cost(net, told[-1]))


class Spans(unittest.TestCase):
    def told(self, net, start, goal, road, many, ways=None):
        """The span is as the told list of each cost tells it; the span."""
        ways = all_simple(net, start, goal) if ways is None else ways
        own = net[1][road][2]

        def list_at(price):
            worth = sorted((cost(net, way) + (price - own) * (road in way), way) for way in ways)
            return [way for _, way in worth[:many]]

        same = [list_at(price) == list_at(own) for price in range(100)]
        low = high = own
        while low > 1 and same[low - 1]:
            low -= 1
        while high < 99 and same[high + 1]:
            high += 1
        before = repr((net, start, goal, road, many))
        told = span_of(net, start, goal, road, many=many)
        self.assertEqual(told, (low, high), before)
        self.assertEqual([type(part) for part in (told, *told)], [tuple, int, int])
        self.assertEqual(repr((net, start, goal, road, many)), before)
        return told

    def test_by_hand(self):
        # (0, 1) for 2, (0, 3) for 4, (2,) for 5.
        self.assertEqual(span_of(THREE, 0, 2, 0, many=1), (1, 4))
        self.assertEqual(span_of(THREE, 0, 2, 0), (1, 2))
        self.assertEqual(span_of(THREE, 0, 2, 1, many=1), (1, 3))
        self.assertEqual(span_of(THREE, 0, 2, 2, many=1), (2, 99))
        self.assertEqual(span_of(THREE, 0, 2, 2, many=2), (4, 99))
        self.assertEqual(span_of(THREE, 0, 2, 2, many=3), (4, 99))
        self.assertEqual(span_of(THREE, 0, 2, 3, many=1), (1, 99))
        self.assertEqual(span_of(THREE, 0, 2, 3, many=2), (1, 4))
        # Start and goal one, or no way: nothing hangs on any road.
        for road in range(4):
            self.assertEqual(span_of(THREE, 1, 1, road), (1, 99))
            self.assertEqual(span_of(THREE, 2, 0, road), (1, 99))

    def test_left_out_it_is_three(self):
        for road in range(4):
            self.assertEqual(span_of(THREE, 0, 2, road), span_of(THREE, 0, 2, road, many=3))
        net = (2, tuple((0, 1, 10 + at, 0) for at in range(6)))
        self.assertEqual(span_of(net, 0, 1, 2), (11, 13))
        self.assertEqual(span_of(net, 0, 1, 5), (12, 99))
        self.assertEqual(span_of(net, 0, 1, 5, many=4), (13, 99))

    def test_likes(self):
        # As tuples compare the lesser one stays ahead at like costs, the greater one must cost more.
        net = (2, ((0, 1, 50, 0), (0, 1, 50, 0)))
        self.assertEqual(span_of(net, 0, 1, 0, many=1), (1, 50))
        self.assertEqual(span_of(net, 0, 1, 1, many=1), (50, 99))
        self.assertEqual(span_of(net, 0, 1, 1, many=2), (50, 99))
        self.assertEqual(span_of((2, ((0, 1, 1, 0), (0, 1, 99, 0))), 0, 1, 0, many=1), (1, 99))
        self.assertEqual(span_of((2, ((0, 1, 1, 0), (0, 1, 99, 0))), 0, 1, 1, many=1), (1, 99))
        self.assertEqual(span_of((2, ((0, 1, 99, 0), (0, 1, 1, 0))), 0, 1, 0, many=1), (2, 99))
        self.assertEqual(span_of((2, ((0, 1, 99, 0), (0, 1, 1, 0))), 0, 1, 1, many=1), (1, 98))

    def test_against_the_list_of_each_cost(self):
        seen = set()
        for seed in range(24):
            net = ringed_net(seed, 4 + seed % 4, 8 + seed % 6, (3, 9, 30, 99)[seed % 4])
            ways = all_simple(net, 0, 3)
            for road in range(len(net[1])):
                for many in (1, 2, 3, 7, 12):
                    seen.add(self.told(net, 0, 3, road, many, ways))
        self.assertGreater(len(seen), 40)
        self.assertIn((1, 99), seen)
        self.assertTrue(any(1 < low and high < 99 for low, high in seen))

    def test_each_many(self):
        net = ringed_net(6, 6, 16, 30)
        ways = all_simple(net, 0, 3)
        self.assertGreater(len(ways), 12)
        for road, many in itertools.product(range(16), range(1, 13)):
            self.told(net, 0, 3, road, many, ways)

    def test_great_nets(self):
        for seed in range(3):
            net = ringed_net(seed, 10, 30, 99)
            ways = all_simple(net, 0, 9)
            for road in (0, 7, 15, 29):
                self.told(net, 0, 9, road, 12, ways)

    def test_the_lists_are_the_program_s(self):
        net = ringed_net(9, 5, 11, 9)
        for road in range(11):
            low, high = span_of(net, 0, 3, road)
            told = least_simple(net, 0, 3)
            for price in range(1, 100):
                if low <= price <= high:
                    self.assertEqual(least_simple(changed(net, (road, price)), 0, 3), told)
                elif price in (low - 1, high + 1):
                    self.assertNotEqual(least_simple(changed(net, (road, price)), 0, 3), told)


class Refused(unittest.TestCase):
    NETS = (*odd_things(), (), 5, list(NET), (11, ()), (True, ()))

    def refused(self, kind, asked, *arguments, **named):
        before = repr((arguments, named))
        with self.assertRaises(kind, msg=before[:300]) as caught:
            asked(*arguments, **named)
        self.assertIs(type(caught.exception), kind)
        self.assertEqual(repr((arguments, named)), before)

    def test_no_net_whatever_stands_behind_it(self):
        for odd in self.NETS:
            for last in (0, None, (0, 5), (), odd):
                self.refused(NoNet, changed, odd, last)
                self.refused(NoNet, way_behind, odd, last, last)
                self.refused(NoNet, paper_behind, odd, last, last, last, last, last)
                self.refused(NoNet, span_of, odd, last, last, last, many=last)

    def test_no_place_whatever_stands_behind_it(self):
        for odd in (*odd_things(), (), (0,), 3, 4, -3):
            for last in (0, None, (0, 5), (), odd):
                for start, goal in ((odd, 0), (0, odd), (odd, odd)):
                    self.refused(NoPlace, paper_behind, THREE, start, goal, last, last, last)
                    self.refused(NoPlace, span_of, THREE, start, goal, last, many=last)

    def test_no_change(self):
        told, paper = paper_of(THREE, 0, 2)
        for net in (THREE, NET, made_net(4, 10, 30)):
            for odd in no_changes(net):
                self.refused(NoChange, changed, net, odd)
                for way in ((), (0,), (3, 2)):
                    self.refused(NoChange, way_behind, net, way, odd)
        for odd in no_changes(THREE):
            self.refused(NoChange, paper_behind, THREE, 0, 2, told, paper, odd)
        for net in ((1, ()), (2, ()), (10, ())):
            for odd in ((0, 5), (0, None), (0, 0), (-1, None), *odd_things()):
                self.refused(NoChange, changed, net, odd)
                self.refused(NoChange, way_behind, net, (), odd)

    def test_each_cost_that_is_let(self):
        for price in range(1, 100):
            self.assertEqual(changed(THREE, (3, price))[1][3], (1, 2, price, 0))
        for price in (0, 100, -1, 101):
            self.refused(NoChange, changed, THREE, (3, price))

    def test_no_way(self):
        for odd in (*odd_things(), [], [0], (4,), (-1,), (0, 4), (0, None), (0, True), (False,), "", "0", 0, None, True,
                    {}, {0: 1}, ((0,),), ("0",), (10 ** 29,), (0, [1])):
            for change in ((0, 5), (0, None), (9, 5), None, odd):
                self.refused(NoWay, way_behind, THREE, odd, change)
        for odd in ((0,), [], None, "", (None,)):
            self.refused(NoWay, way_behind, (3, ()), odd, (0, 5))

    def test_no_paper(self):
        told, paper = paper_of(THREE, 0, 2, many=2)
        for change in ((0, 5), (0, None), (9, 5), None, [0, 5]):
            for odd in odd_things():
                self.refused(NoPaper, paper_behind, THREE, 0, 2, odd, paper, change)
                self.refused(NoPaper, paper_behind, THREE, 0, 2, told, odd, change)
                self.refused(NoPaper, paper_behind, THREE, 0, 2, odd, odd, change)
            self.refused(NoPaper, paper_behind, THREE, 0, 2, list(told), paper, change)
            self.refused(NoPaper, paper_behind, THREE, 0, 2, told, list(paper), change)
            self.refused(NoPaper, paper_behind, THREE, 0, 2, told[::-1], paper, change)
            self.refused(NoPaper, paper_behind, THREE, 0, 2, told[1:], paper, change)
            self.refused(NoPaper, paper_behind, THREE, 0, 2, told, paper[:1], change)
            self.refused(NoPaper, paper_behind, THREE, 0, 2, (), paper[:1], change)
            self.refused(NoPaper, paper_behind, THREE, 1, 2, told, paper, change)
            self.refused(NoPaper, paper_behind, THREE, 0, 0, (), (), change)
            self.refused(NoPaper, paper_behind, THREE, 0, 2, told, with_part(paper, 0, ((), (None, 2, 0))), change)
        # What would show something in the new net alone shows nothing now.
        ahead = (((0, 3), (0, 1)), paper)
        self.assertEqual(shown_by(changed(THREE, (1, 4)), 0, 2, *ahead), "least")
        self.refused(NoPaper, paper_behind, THREE, 0, 2, *ahead, (1, 4))

    def test_no_road_then_no_many(self):
        for odd in (*odd_things(), 4, 5, -1, None, True, "0", (0,), [0]):
            for many in (1, 0, 13, None, odd):
                self.refused(NoRoad, span_of, THREE, 0, 2, odd, many=many)
                self.refused(NoRoad, span_of, THREE, 1, 1, odd, many=many)
                self.refused(NoRoad, span_of, (3, ()), 0, 2, 0, many=many)
        for odd in (*odd_things(), 0, 13, 14, -1, True, False, None, "3", (3,), [3]):
            for road in range(4):
                self.refused(NoMany, span_of, THREE, 0, 2, road, many=odd)
                self.refused(NoMany, span_of, THREE, 1, 1, road, many=odd)

    def test_several_at_once(self):
        told, paper = paper_of(THREE, 0, 2)
        nets = ("net", THREE, ((), None, [3, ()]), NoNet)
        changes = ("change", (0, 5), (None, (0, 0), (4, 5), [0, 5]), NoChange)
        ends = [("start", 0, (3, True), NoPlace), ("goal", 2, (-1, None), NoPlace)]
        check_refusals(self, changed, [nets, changes])
        check_refusals(self, way_behind, [nets, ("way", (0, 1), ([], (4,), None), NoWay), changes])
        check_refusals(self, paper_behind, [nets, *ends, ("told", told, ((), None, told[1:]), NoPaper),
                                            ("paper", paper, ((), None, paper[1:]), NoPaper), changes])
        check_refusals(self, span_of, [nets, *ends, ("road", 1, (4, -1, True, None), NoRoad),
                                       ("many", 2, (0, 13, True, None), NoMany)])


class Asking(unittest.TestCase):
    def test_names_of_the_arguments(self):
        self.assertEqual(parameters(changed), (["net", "change"], [], {}))
        self.assertEqual(parameters(way_behind), (["net", "way", "change"], [], {}))
        self.assertEqual(parameters(paper_behind), (["net", "start", "goal", "told", "paper", "change"], [], {}))
        self.assertEqual(parameters(span_of), (["net", "start", "goal", "road"], ["many"], {"many": 3}))
        with self.assertRaises(TypeError):
            span_of(THREE, 0, 2, 1, 3)

    def test_by_names_in_another_order(self):
        told, paper = paper_of(THREE, 0, 2, many=2)
        self.assertEqual(changed(change=(1, None), net=THREE), changed(THREE, (1, None)))
        self.assertEqual(way_behind(change=(1, None), way=(2, 0), net=THREE), (1, 0))
        self.assertEqual(paper_behind(change=(2, 9), paper=paper, told=told, goal=2, start=0, net=THREE),
                         (told, paper, "least"))
        self.assertEqual(span_of(many=1, road=0, goal=2, start=0, net=THREE), (1, 4))
        self.assertEqual(span_of(road=0, goal=2, start=0, net=THREE), (1, 2))

    def test_asked_twice_the_same_is_told(self):
        net = ringed_net(6, 6, 14, 9)
        told, paper = paper_of(net, 0, 3)
        for _ in range(2):
            for road in (0, 13):
                for price in (None, 4):
                    again = copy.deepcopy(net)
                    self.assertEqual(changed(net, (road, price)), changed(again, (road, price)))
                    self.assertEqual(paper_behind(net, 0, 3, told, paper, (road, price)),
                                     paper_behind(again, 0, 3, *copy.deepcopy((told, paper)), (road, price)))
                    self.assertEqual(span_of(net, 0, 3, road), span_of(again, 0, 3, road))
            with self.assertRaises(NoChange):
                changed(net, (14, 1))

    def test_nothing_hangs_on_what_was_handed_in_earlier(self):
        change = [0, None]
        self.assertRaises(NoChange, changed, THREE, change)
        self.assertEqual(changed(THREE, tuple(change)), (3, THREE[1][1:]))
        change[1] = 9
        self.assertEqual(changed(THREE, tuple(change)), (3, ((0, 1, 9, 0), *THREE[1][1:])))


if __name__ == "__main__":
    unittest.main()
