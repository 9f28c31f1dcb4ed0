"""Points 70 and 71, and points 2, 3, 4 as they bear on them."""

import copy
import inspect
import itertools
import unittest

from reckoning import all_simple, behind, cost, looked, paper_for, renet
from samples import NET, Dice, check_refusals, odd_things, parameters, ringed_net
from waysranked.changes import changed, paper_behind
from waysranked.errors import NoAsk, NoChange, NoMany, NoNet, NoPlace, Nothing, TooMany
from waysranked.office import Office
from waysranked.papers import paper_of, shown_by

# From 0 to 2: (0, 1) for 2, (0, 3) for 4, (2,) for 5.
THREE = (3, ((0, 1, 1, 0), (1, 2, 1, 0), (0, 2, 5, 0), (1, 2, 3, 0)))
METHODS = ("ask", "drop", "undo", "turn", "together", "net", "told_of", "asks", "shows", "twin", "__len__", "__eq__",
           "__repr__", "__init__")


def look(office):
    """All that an office tells."""
    return (office.net(), office.asks(), [office.told_of(number) for number in office.asks()],
            [office.shows(number) for number in office.asks()], len(office), repr(office))


def past(office):
    """All that an office tells behind each undo, told by a twin."""
    other, told = office.twin(), []
    while True:
        try:
            other.undo()
        except Nothing:
            return told
        told.append(look(other))


class Model:
    """An office as the test itself keeps it."""

    def __init__(self, net):
        self.state, self.ahead = (net, {}), []

    def found(self, net, start, goal, many):
        told = tuple(all_simple(net, start, goal)[:many])
        return (start, goal, many, told, paper_for(net, start, goal, told))

    def do(self, net, asks):
        self.ahead.append(self.state)
        self.state = (net, asks)

    def ask(self, start, goal, many):
        net, asks = self.state
        number = min(set(range(13)) - set(asks))
        self.do(net, {**asks, number: self.found(net, start, goal, many)})
        return number

    def drop(self, number):
        net, asks = self.state
        self.do(net, {other: row for other, row in asks.items() if other != number})

    def together(self, changes):
        net, asks = self.state
        anew = set()
        for road, price in changes:
            asks = dict(asks)
            for number, (start, goal, many, told, paper) in asks.items():
                stays = behind(net, start, goal, told, paper, road, price)
                if stays is None:
                    anew.add(number)
                    asks[number] = self.found(renet(net, road, price), start, goal, many)
                else:
                    asks[number] = (start, goal, many, *stays[:2])
            net = renet(net, road, price)
        self.do(net, asks)
        return (tuple(sorted(set(asks) - anew)), tuple(sorted(anew)))

    def undo(self):
        self.state = self.ahead.pop()

    def look(self):
        net, asks = self.state
        rows = [asks[number] for number in sorted(asks)]
        return (net, sorted(asks), [row[3:] for row in rows],
                [looked(net, row[0], row[1], row[3], row[4]) for row in rows], len(asks),
                f"Office({net[0]} places, {len(net[1])} roads, {len(asks)} asks)")


def drawn_change(net, dice):
    return (dice.below(len(net[1])), None if dice.below(5) == 0 else 1 + dice.below(12))


class Asks(unittest.TestCase):
    def test_an_office_of_its_own(self):
        for net in (THREE, NET, (1, ()), (10, ())):
            office = Office(net)
            shown = f"Office({net[0]} places, {len(net[1])} roads, 0 asks)"
            self.assertEqual(look(office), (net, [], [], [], 0, shown))
            self.assertRaises(Nothing, office.undo)

    def test_numbers_from_nought_on(self):
        office = Office(THREE)
        for number in range(12):
            told = office.ask(number % 3, number // 3 % 3, many=1 + number)
            self.assertIs(type(told), int)
            self.assertEqual(told, number)
            self.assertEqual(office.asks(), list(range(number + 1)))
            self.assertEqual(len(office), number + 1)

    def test_what_is_found(self):
        for net in (THREE, NET):
            for start, goal in itertools.product(range(3), repeat=2):
                office = Office(net)
                for many in range(1, 13):
                    number = office.ask(start, goal, many=many)
                    self.assertEqual(office.told_of(number), paper_of(net, start, goal, many=many))
                    self.assertEqual(office.shows(number), shown_by(net, start, goal, *office.told_of(number)))
        office = Office(THREE)
        self.assertEqual(office.told_of(office.ask(0, 2)), paper_of(THREE, 0, 2, many=3))

    def test_the_least_number_that_none_has(self):
        office = Office(THREE)
        for _ in range(12):
            office.ask(0, 2)
        for number in (3, 0, 11, 7):
            self.assertIs(office.drop(number), None)
        self.assertEqual(office.asks(), [1, 2, 4, 5, 6, 8, 9, 10])
        self.assertEqual([office.ask(0, 1) for _ in range(4)], [0, 3, 7, 11])
        self.assertEqual(office.asks(), list(range(12)))
        for number in range(12):
            office.drop(number)
        self.assertEqual((office.asks(), len(office)), ([], 0))
        self.assertEqual(office.ask(1, 2), 0)

    def test_the_numbers_of_others_stay(self):
        office = Office(THREE)
        for goal in (0, 1, 2):
            office.ask(0, goal)
        rows = [office.told_of(number) for number in range(3)]
        office.drop(1)
        self.assertEqual([office.told_of(number) for number in (0, 2)], [rows[0], rows[2]])

    def test_the_thirteenth_is_refused(self):
        office = Office(THREE)
        for _ in range(12):
            office.ask(0, 2, many=1)
        before, stood = look(office), past(office)
        for _ in range(2):
            with self.assertRaises(TooMany) as caught:
                office.ask(0, 2)
            self.assertEqual((caught.exception.many, caught.exception.most), (13, 12))
            self.assertEqual((look(office), past(office)), (before, stood))
        office.drop(5)
        self.assertEqual(office.ask(0, 2), 5)
        self.assertRaises(TooMany, office.ask, 0, 2)
        # What is handed in is looked at ahead of how many there are.
        self.assertRaises(NoPlace, office.ask, 3, 2)
        self.assertRaises(NoMany, office.ask, 0, 2, many=0)

    def test_no_ask(self):
        office = Office(THREE)
        office.ask(0, 2)
        office.ask(0, 1)
        office.drop(0)
        before, stood = look(office), past(office)
        for odd in (*odd_things(), 0, 2, 11, 12, 13, -1, True, False, None, "1", (1,), [1], {1: 1}, ()):
            kept = copy.deepcopy(odd)
            for asked in (office.drop, office.told_of, office.shows):
                with self.assertRaises(NoAsk, msg=repr(odd)[:200]) as caught:
                    asked(odd)
                self.assertIs(type(caught.exception), NoAsk)
                self.assertEqual(repr(caught.exception.number), repr(kept))
            self.assertEqual(repr(odd), repr(kept))
        self.assertEqual((look(office), past(office)), (before, stood))
        self.assertRaises(NoAsk, Office(THREE).drop, 0)


class Turns(unittest.TestCase):
    def test_by_hand(self):
        office = Office(THREE)
        office.ask(0, 2, many=1)
        office.ask(0, 2, many=2)
        office.ask(0, 1, many=1)
        office.ask(2, 2)
        # (2,) costs 3 now: less than (0, 3), more than (0, 1).
        self.assertEqual(office.turn(2, 3), ((0, 2, 3), (1,)))
        self.assertEqual(office.told_of(1)[0], ((0, 1), (2,)))
        # Dearer again: ask 1 costs less without it.
        self.assertEqual(office.turn(2, 5), ((0, 2, 3), (1,)))
        self.assertEqual(office.told_of(1)[0], ((0, 1), (0, 3)))
        # Shut, so all numbers behind it are less by one.
        self.assertEqual(office.turn(2, None), ((0, 1, 2, 3), ()))
        self.assertEqual(office.told_of(1)[0], ((0, 1), (0, 2)))
        self.assertEqual([office.shows(number) for number in range(4)], ["least", "all", "all", "all"])
        self.assertEqual(office.turn(0, None), ((3,), (0, 1, 2)))
        self.assertEqual([office.told_of(number)[0] for number in range(4)], [(), (), (), ((),)])
        self.assertEqual(office.net(), (3, ((1, 2, 1, 0), (1, 2, 3, 0))))

    def test_the_same_cost_again_is_a_deed(self):
        office = Office(THREE)
        office.ask(0, 2)
        before = look(office)
        self.assertEqual(office.turn(1, 1), ((0,), ()))
        self.assertEqual(look(office), before)
        office.undo()
        self.assertEqual(look(office), before)
        office.undo()
        self.assertEqual(len(office), 0)

    def test_kept_as_point_61_tells_it_else_found_anew(self):
        seen = [0, 0]
        for seed in range(40):
            dice = Dice(seed)
            office = Office(ringed_net(seed, 4 + seed % 4, 12, 12))
            asked = [(dice.below(4), dice.below(4), 1 + dice.below(4)) for _ in range(6)]
            for start, goal, many in asked:
                office.ask(start, goal, many=many)
            for _ in range(8):
                net, change = office.net(), drawn_change(office.net(), dice)
                due = [paper_behind(net, start, goal, *office.told_of(number), change)
                       for number, (start, goal, _) in enumerate(asked)]
                kept, anew = office.turn(*change)
                self.assertEqual(office.net(), changed(net, change))
                self.assertEqual([type(kept), type(anew)], [tuple, tuple])
                self.assertEqual(kept, tuple(number for number in range(6) if due[number] is not None))
                self.assertEqual(anew, tuple(number for number in range(6) if due[number] is None))
                for number, (start, goal, many) in enumerate(asked):
                    seen[due[number] is None] += 1
                    told = office.told_of(number)
                    self.assertEqual(told, due[number][:2] if due[number] else
                                     paper_of(office.net(), start, goal, many=many))
        self.assertGreater(min(seen), 200, seen)

    def test_at_any_time_each_paper_shows_its_told_list(self):
        for seed in range(30):
            dice = Dice(seed)
            office = Office(ringed_net(seed, 4 + seed % 4, 13, 8))
            asked = {}
            for step in range(25):
                if step % 3 == 0 and len(office) < 12:
                    row = (dice.below(4), dice.below(4), 1 + dice.below(12))
                    asked[office.ask(row[0], row[1], many=row[2])] = row
                elif office.net()[1]:
                    office.turn(*drawn_change(office.net(), dice))
                for number, (start, goal, many) in asked.items():
                    told, paper = office.told_of(number)
                    shown = looked(office.net(), start, goal, told, paper)
                    self.assertIn(shown, ("least", "all"))
                    self.assertEqual(office.shows(number), shown)
                    ways = all_simple(office.net(), start, goal)
                    self.assertEqual([cost(office.net(), way) for way in told],
                                     [cost(office.net(), way) for way in ways[:many]])

    def test_of_no_asks(self):
        office = Office(THREE)
        self.assertEqual(office.turn(0, 9), ((), ()))
        self.assertEqual(office.turn(0, None), ((), ()))
        self.assertEqual(office.together(((0, 4), (0, None), (1, 7))), ((), ()))
        self.assertEqual(office.net(), (3, ((0, 2, 5, 0), (1, 2, 7, 0))))

    def test_no_change(self):
        office = Office(THREE)
        office.ask(0, 2)
        before, stood = look(office), past(office)
        for road in (*odd_things(), 4, 5, -1, None, True, "0", (0,)):
            for price in (5, None, 0, "5", road):
                self.assertRaises(NoChange, office.turn, road, price)
        for price in (*odd_things(), 0, 100, -1, True, False, "5", (5,), ()):
            if price is not None:
                for road in range(4):
                    self.assertRaises(NoChange, office.turn, road, price)
        self.assertEqual((look(office), past(office)), (before, stood))
        self.assertRaises(NoChange, Office((2, ())).turn, 0, 5)
        self.assertRaises(NoChange, Office((2, ())).turn, 0, None)


class Together(unittest.TestCase):
    def test_of_none_is_a_deed_too(self):
        office = Office(THREE)
        office.ask(0, 2)
        office.ask(1, 2)
        before = look(office)
        self.assertEqual(office.together(()), ((0, 1), ()))
        self.assertEqual(look(office), before)
        office.undo()
        self.assertEqual(look(office), before)
        office.undo()
        self.assertEqual(office.asks(), [0])

    def test_numbers_behind_a_shut_road_are_less_by_one(self):
        office = Office(THREE)
        office.ask(0, 2)
        # Roads 1 and 2 of the net that stands then are 2 and 3 of this one.
        office.together(((1, None), (1, 7), (2, 8), (0, 9)))
        self.assertEqual(office.net(), (3, ((0, 1, 9, 0), (0, 2, 7, 0), (1, 2, 8, 0))))
        office.together(((0, None), (0, None), (0, None)))
        self.assertEqual(office.net(), (3, ()))
        office.undo()
        self.assertEqual(len(office.net()[1]), 3)

    def test_anew_by_one_of_the_changes_is_anew(self):
        office = Office(THREE)
        office.ask(0, 2, many=2)
        office.ask(0, 2, many=1)
        first = office.told_of(0)
        # There and back: ask 0 is found anew by the first one, and by the second one.
        self.assertEqual(office.together(((2, 3), (2, 5))), ((1,), (0,)))
        self.assertEqual(office.told_of(0), first)
        self.assertEqual(office.net(), THREE)
        # Anew by the first alone; then kept.
        self.assertEqual(office.together(((2, 3), (2, 3))), ((1,), (0,)))

    def test_as_one_by_one(self):
        for seed in range(40):
            dice = Dice(seed)
            one = Office(ringed_net(seed, 4 + seed % 3, 12, 9))
            for _ in range(4):
                one.ask(dice.below(4), dice.below(4), many=1 + dice.below(3))
            other, net, changes, anew = one.twin(), one.net(), [], set()
            for _ in range(dice.below(6)):
                changes.append(drawn_change(net, dice))
                net = changed(net, changes[-1])
                anew |= set(other.turn(*changes[-1])[1])
            before = look(one)
            told = one.together(tuple(changes))
            self.assertEqual(told, (tuple(sorted(set(range(4)) - anew)), tuple(sorted(anew))))
            self.assertEqual([type(part) for part in (told, *told)], [tuple] * 3)
            self.assertEqual(look(one), look(other))
            self.assertTrue(one == other)
            one.undo()
            self.assertEqual(look(one), before)

    def test_where_one_is_none_all_is_as_ahead(self):
        office = Office(THREE)
        office.ask(0, 2)
        office.turn(1, 2)
        before, stood = look(office), past(office)
        good = ((2, 9), (0, 50), (1, None))
        for odd in (*odd_things(), (4, 5), (-1, 5), (0, 0), (0, 100), (0, True), (True, 5), [0, 5], (0,), (0, 5, 5),
                    ()):
            for at in range(4):
                self.assertRaises(NoChange, office.together, (*good[:at], odd, *good[at:]))
            self.assertRaises(NoChange, office.together, (odd,))
        # A road that was there ahead of the one that was shut.
        self.assertRaises(NoChange, office.together, ((1, None), (3, 5)))
        self.assertRaises(NoChange, office.together, ((0, None),) * 5)
        self.assertEqual((look(office), past(office)), (before, stood))
        office.together(((1, None), (2, 5)))
        self.assertEqual(office.net()[1], (THREE[1][0], THREE[1][2], (1, 2, 5, 0)))

    def test_what_is_no_tuple(self):
        office = Office(THREE)
        office.ask(0, 2)
        before, stood = look(office), past(office)
        for odd in (*odd_things(), [], [(0, 5)], {}, {(0, 5): (1, 5)}, "", None, 0, True, (0, 5)):
            if odd != ():
                self.assertRaises(NoChange, office.together, odd)
        self.assertEqual((look(office), past(office)), (before, stood))


class Undo(unittest.TestCase):
    def test_each_kind_of_deed(self):
        office = Office(THREE)
        stood = [look(office)]
        deeds = [lambda: office.ask(0, 2), lambda: office.ask(0, 1, many=1), lambda: office.turn(2, 1),
                 lambda: office.drop(0), lambda: office.turn(0, None), lambda: office.together(((0, 9), (0, None))),
                 lambda: office.together(()), lambda: office.ask(2, 2), lambda: office.drop(1)]
        for deed in deeds:
            deed()
            stood.append(look(office))
        self.assertEqual(len(past(office)), len(deeds))
        for due in reversed(stood[:-1]):
            self.assertIs(office.undo(), None)
            self.assertEqual(look(office), due)
        with self.assertRaises(Nothing) as caught:
            office.undo()
        self.assertIs(type(caught.exception), Nothing)
        self.assertEqual(look(office), stood[0])

    def test_the_last_deed_that_stands(self):
        office = Office(THREE)
        office.ask(0, 2)
        office.turn(0, 9)
        office.undo()
        office.turn(1, 9)
        office.undo()
        self.assertEqual(office.net(), THREE)
        office.undo()
        self.assertEqual(len(office), 0)
        self.assertRaises(Nothing, office.undo)
        self.assertEqual(office.ask(0, 2), 0)
        office.undo()
        self.assertRaises(Nothing, office.undo)

    def test_what_is_refused_and_what_is_told_is_no_deed(self):
        office = Office(THREE)
        office.ask(0, 2)
        for refused in (lambda: office.ask(9, 2), lambda: office.ask(0, 2, many=0), lambda: office.drop(7),
                        lambda: office.turn(9, 9), lambda: office.together(((0, 5), (9, 9))),
                        lambda: office.told_of(3)):
            self.assertRaises(ValueError, refused)
        look(office), office.twin(), office == office, office.asks()
        office.undo()
        self.assertEqual(len(office), 0)
        self.assertRaises(Nothing, office.undo)

    def test_a_number_is_free_again(self):
        office = Office(THREE)
        office.ask(0, 2)
        office.ask(0, 1)
        office.undo()
        self.assertEqual(office.ask(1, 2), 1)
        office.drop(0)
        office.undo()
        self.assertEqual(office.asks(), [0, 1])
        self.assertEqual(office.ask(1, 1), 2)


class Deeds(unittest.TestCase):
    def step(self, office, model, dice):
        """One deed, or one that is refused, at both."""
        net, asks = model.state
        word = dice.below(10)
        if word < 3:
            start, goal, many = dice.below(net[0] + (word == 0)), dice.below(net[0]), 1 + dice.below(12)
            if start == net[0]:
                self.assertRaises(NoPlace, office.ask, start, goal, many=many)
            elif len(asks) == 12:
                self.assertRaises(TooMany, office.ask, start, goal, many=many)
            else:
                self.assertEqual(office.ask(start, goal, many=many), model.ask(start, goal, many))
        elif word == 3:
            number = dice.below(12)
            if number in asks:
                office.drop(number)
                model.drop(number)
            else:
                self.assertRaises(NoAsk, office.drop, number)
        elif word < 7 and net[1]:
            change = drawn_change(net, dice)
            self.assertEqual(office.turn(*change), model.together((change,)))
        elif word == 7 and len(net[1]) > 3:
            changes = tuple(drawn_change((net[0], net[1][:-3]), dice) for _ in range(dice.below(4)))
            self.assertEqual(office.together(changes), model.together(changes))
        elif model.ahead:
            office.undo()
            model.undo()
        else:
            self.assertRaises(Nothing, office.undo)

    def test_drawn_deeds(self):
        for seed in range(30):
            dice = Dice(seed)
            net = ringed_net(seed, 3 + seed % 4, 10 + seed % 5, (3, 9)[seed % 2])
            office, model = Office(net), Model(net)
            twins = []
            for step in range(40):
                self.step(office, model, dice)
                self.assertEqual(look(office), model.look())
                if step % 10 == 5:
                    twins.append((office.twin(), look(office), past(office)))
            for twin, told, stood in twins:
                self.assertEqual((look(twin), past(twin)), (told, stood))


class Told(unittest.TestCase):
    def test_the_kinds(self):
        office = Office(THREE)
        office.ask(0, 2)
        self.assertEqual([type(part) for part in (office.net(), office.asks(), office.told_of(0), *office.told_of(0))],
                         [tuple, list, tuple, tuple, tuple])
        self.assertEqual([type(part) for part in (office.shows(0), len(office), repr(office), office.twin())],
                         [str, int, str, Office])

    def test_asks_is_a_new_list_each_time(self):
        office = Office(THREE)
        for _ in range(3):
            office.ask(0, 2)
        told = office.asks()
        told.append(9)
        told.reverse()
        self.assertEqual(office.asks(), [0, 1, 2])
        self.assertEqual(len(office), 3)
        self.assertEqual(office.ask(0, 2), 3)

    def test_repr(self):
        office = Office((4, ((0, 1, 1, 0),) * 6))
        office.ask(0, 1)
        office.ask(0, 2)
        self.assertEqual(repr(office), "Office(4 places, 6 roads, 2 asks)")
        self.assertEqual(str(office), "Office(4 places, 6 roads, 2 asks)")
        office.turn(0, None)
        office.drop(0)
        self.assertEqual(repr(office), "Office(4 places, 5 roads, 1 asks)")
        self.assertEqual(repr(Office((1, ()))), "Office(1 places, 0 roads, 0 asks)")

    def test_shows(self):
        office = Office(THREE)
        self.assertEqual([office.shows(office.ask(0, 2, many=many)) for many in (1, 2, 3, 4)],
                         ["least", "least", "all", "all"])
        self.assertEqual([office.shows(office.ask(*ends)) for ends in ((2, 0), (1, 1))], ["all", "all"])

    def test_equal(self):
        one, other = Office(THREE), Office(THREE)
        self.assertTrue(one == other)
        self.assertFalse(one != other)
        one.ask(0, 2)
        self.assertFalse(one == other)
        self.assertTrue(one != other)
        other.ask(0, 2)
        self.assertTrue(one == other)
        # Another start, goal or many, by another number, or another net.
        for start, goal, many in ((1, 2, 3), (0, 1, 3), (0, 2, 2), (0, 2, 4)):
            other = Office(THREE)
            other.ask(start, goal, many=many)
            self.assertFalse(one == other, (start, goal, many))
        other = Office(THREE)
        other.ask(0, 2)
        other.ask(0, 2)
        other.drop(0)
        self.assertFalse(one == other)
        other = Office((4, THREE[1]))
        other.ask(0, 2)
        self.assertFalse(one == other)
        self.assertFalse(Office(THREE) == Office(renet(THREE, 0, 2)))
        self.assertTrue(Office((3, ())) == Office((3, ())))

    def test_equal_whatever_order_and_whatever_can_be_undone(self):
        one, other = Office(THREE), Office(THREE)
        one.ask(0, 2), one.ask(0, 1)
        other.ask(1, 2), other.ask(0, 1), other.drop(0), other.ask(0, 2)
        self.assertTrue(one == other)
        self.assertNotEqual(past(one), past(other))
        one.turn(0, 7), one.undo()
        self.assertTrue(one == other)

    def test_papers_count(self):
        # The told list is like, but the one paper was kept and the other one found.
        one, other = Office(THREE), Office(renet(THREE, 1, 2))
        one.ask(0, 2, many=1), other.ask(0, 2, many=1)
        self.assertEqual(one.turn(1, 2), ((0,), ()))
        self.assertEqual(one.net(), other.net())
        self.assertEqual(one.told_of(0)[0], other.told_of(0)[0])
        self.assertNotEqual(one.told_of(0)[1], other.told_of(0)[1])
        self.assertFalse(one == other)

    def test_no_thing_of_another_kind(self):
        office = Office(THREE)
        for odd in (*odd_things(), THREE, repr(office), 0, (THREE, {}), [office], object()):
            self.assertIs(office == odd, False)
            self.assertIs(office != odd, True)
            self.assertIs(odd == office, False)


class Twins(unittest.TestCase):
    def test_deeds_at_the_one_change_nothing_at_the_other(self):
        office = Office(THREE)
        office.ask(0, 2)
        office.turn(0, 4)
        office.ask(0, 1)
        twin = office.twin()
        self.assertIsNot(twin, office)
        self.assertIs(type(twin), Office)
        self.assertTrue(twin == office)
        self.assertEqual((look(twin), past(twin)), (look(office), past(office)))
        before, stood = look(office), past(office)
        twin.ask(1, 2), twin.drop(0), twin.turn(1, None), twin.together(((0, 1),))
        self.assertEqual((look(office), past(office)), (before, stood))
        for _ in range(7):
            twin.undo()
        self.assertRaises(Nothing, twin.undo)
        self.assertEqual(look(twin), look(Office(THREE)))
        self.assertEqual((look(office), past(office)), (before, stood))
        twin = office.twin()
        office.drop(0), office.turn(2, None), office.undo(), office.undo(), office.undo()
        self.assertEqual((look(twin), past(twin)), (before, stood))

    def test_it_can_undo_what_stood(self):
        office = Office(THREE)
        office.ask(0, 2)
        office.turn(0, 9)
        twin = office.twin().twin()
        twin.undo()
        self.assertEqual(twin.net(), THREE)
        twin.undo()
        self.assertEqual(len(twin), 0)
        self.assertRaises(Nothing, twin.undo)
        self.assertEqual(office.net(), renet(THREE, 0, 9))


class Refused(unittest.TestCase):
    def test_no_net(self):
        for odd in (*odd_things(), (), 5, list(NET), (11, ()), (True, ()), (1, ((0, 0, 1, 0),))):
            before = repr(odd)
            with self.assertRaises(NoNet) as caught:
                Office(odd)
            self.assertIs(type(caught.exception), NoNet)
            self.assertEqual(repr(odd), before)

    def test_ask(self):
        office = Office(THREE)
        office.ask(0, 2)
        before, stood = look(office), past(office)
        for odd in (*odd_things(), (), (0,), 3, 4, -3):
            for many in (1, 0, None, odd):
                for start, goal in ((odd, 0), (0, odd), (odd, odd)):
                    self.assertRaises(NoPlace, office.ask, start, goal, many=many)
        for odd in (*odd_things(), 0, 13, -1, True, False, None, "3", (3,), [3]):
            self.assertRaises(NoMany, office.ask, 0, 2, many=odd)
        self.assertEqual((look(office), past(office)), (before, stood))

    def test_several_at_once(self):
        rows = [("start", 0, (3, True), NoPlace), ("goal", 2, (-1, None), NoPlace), ("many", 2, (0, 13, True), NoMany)]
        check_refusals(self, Office(THREE).ask, rows)
        check_refusals(self, lambda **handed: Office(THREE).turn(**handed),
                       [("road", 0, (4, None), NoChange), ("cost", 5, (0, "5"), NoChange)])


class Asking(unittest.TestCase):
    def test_the_class_has_its_methods_itself(self):
        for name in METHODS:
            self.assertTrue(inspect.isfunction(vars(Office).get(name)), name)

    def test_names_of_the_arguments(self):
        office = Office(THREE)
        self.assertEqual(parameters(Office), (["net"], [], {}))
        self.assertEqual(parameters(office.ask), (["start", "goal"], ["many"], {"many": 3}))
        for asked, names in ((office.drop, ["number"]), (office.undo, []), (office.turn, ["road", "cost"]),
                             (office.together, ["changes"]), (office.net, []), (office.told_of, ["number"]),
                             (office.asks, []), (office.shows, ["number"]), (office.twin, [])):
            self.assertEqual(parameters(asked), (names, [], {}))
        with self.assertRaises(TypeError):
            office.ask(0, 2, 3)

    def test_by_names_in_another_order(self):
        office = Office(net=THREE)
        self.assertEqual(office.ask(many=1, goal=2, start=0), 0)
        self.assertEqual(office.told_of(number=0), paper_of(THREE, 0, 2, many=1))
        self.assertEqual(office.shows(number=0), "least")
        self.assertEqual(office.turn(cost=9, road=2), ((0,), ()))
        self.assertEqual(office.together(changes=((2, None),)), ((0,), ()))
        self.assertIs(office.drop(number=0), None)

    def test_asked_twice_the_same_is_told(self):
        office = Office(THREE)
        office.ask(0, 2)
        office.turn(1, 4)
        self.assertEqual(look(office), look(office))
        self.assertEqual(look(copy.deepcopy(office)), look(office))

    def test_nothing_hangs_on_what_was_handed_in_earlier(self):
        changes = [(0, 9), (1, None)]
        office = Office(THREE)
        office.ask(0, 2)
        office.together(tuple(changes))
        before, stood = look(office), past(office)
        changes.clear()
        odd = [0]
        with self.assertRaises(NoAsk):
            office.drop(odd)
        odd.append(1)
        self.assertEqual((look(office), past(office)), (before, stood))


if __name__ == "__main__":
    unittest.main()
