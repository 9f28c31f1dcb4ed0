"""Points 1 to 4 over the whole program: the interface as it is written, and what the modules tell of one another."""

import copy
import importlib
import inspect
import itertools
import unittest

from samples import NET, Dice, made_nets, odd_things, parameters, ringed_net
from waysranked.apart import cost_apart, least_apart
from waysranked.bounds import bound_of, bound_shows
from waysranked.changes import changed, paper_behind, span_of, way_behind
from waysranked.desk import Desk
from waysranked.errors import NoThing, NotNow, WayError
from waysranked.fronts import fence_of, front_holds, front_of, is_fence, within
from waysranked.nets import is_net, is_simple, way_of
from waysranked.office import Office
from waysranked.papers import paper_of, shown_by
from waysranked.prices import are_prices, prices_of
from waysranked.simple import least_simple
from waysranked.texts import net_read, net_text, way_text
from waysranked.walks import count_of, count_to, least_walks, number_of, walk_of

FORK = (4, ((0, 1, 1, 5), (1, 2, 1, 1), (2, 3, 1, 4), (0, 1, 5, 0), (1, 3, 5, 0), (3, 0, 1, 0), (0, 2, 9, 9)))
TOLD, PAPER = paper_of(FORK, 0, 3, many=2)
# The interface: of each function what may be handed in, those behind the bare star in the second dict.
CALLS = (
    (is_net, {"thing": FORK}, {}),
    (way_of, {"net": FORK, "place": 0, "thing": (0, 1)}, {}),
    (is_simple, {"net": FORK, "place": 0, "thing": (0, 1)}, {}),
    (prices_of, {"net": FORK, "goal": 3}, {"shut": (1,)}),
    (are_prices, {"net": FORK, "goal": 3, "thing": (3, 2, 1, 0)}, {"shut": ()}),
    (count_of, {"net": FORK, "start": 0, "goal": 3, "cost": 10}, {}),
    (count_to, {"net": FORK, "start": 0, "goal": 3, "cost": 30}, {}),
    (walk_of, {"net": FORK, "start": 0, "goal": 3, "number": 5}, {}),
    (number_of, {"net": FORK, "start": 0, "goal": 3, "way": (0, 1, 2, 5, 3, 4)}, {}),
    (least_walks, {"net": FORK, "start": 0, "goal": 3, "many": 4}, {}),
    (least_simple, {"net": FORK, "start": 0, "goal": 3}, {"many": 2}),
    (shown_by, {"net": FORK, "start": 0, "goal": 3, "told": TOLD, "paper": PAPER}, {}),
    (paper_of, {"net": FORK, "start": 0, "goal": 3}, {"many": 2}),
    (cost_apart, {"net": FORK, "start": 0, "goal": 3, "thing": ((0, 4), (6, 2))}, {"many": 2, "by": "places"}),
    (least_apart, {"net": FORK, "start": 0, "goal": 3}, {"many": 1, "by": "places"}),
    (bound_shows, {"net": FORK, "start": 0, "goal": 3, "thing": ("cut", (2, 4), ())}, {"many": 3, "by": "places"}),
    (bound_of, {"net": FORK, "start": 0, "goal": 3}, {"many": 1, "by": "places"}),
    (front_of, {"net": FORK, "start": 0, "goal": 3}, {}),
    (within, {"net": FORK, "start": 0, "goal": 3, "most": 9}, {}),
    (fence_of, {"net": FORK, "start": 0}, {}),
    (is_fence, {"net": FORK, "start": 0, "thing": fence_of(FORK, 0)}, {}),
    (front_holds, {"net": FORK, "start": 0, "goal": 3, "front": front_of(FORK, 0, 3), "fence": fence_of(FORK, 0)}, {}),
    (changed, {"net": FORK, "change": (5, None)}, {}),
    (way_behind, {"net": FORK, "way": (6, 2), "change": (5, None)}, {}),
    (paper_behind, {"net": FORK, "start": 0, "goal": 3, "told": TOLD, "paper": PAPER, "change": (5, None)}, {}),
    (span_of, {"net": FORK, "start": 0, "goal": 3, "road": 4}, {"many": 2}),
    (net_text, {"net": FORK}, {}),
    (way_text, {"way": (6, 2)}, {}),
    (net_read, {"text": net_text(FORK)}, {}),
)
LEFT_OUT = {"shut": (), "many": 3, "by": "roads"}
OFFICE = {"ask": (["start", "goal"], ["many"]), "drop": (["number"], []), "undo": ([], []),
          "turn": (["road", "cost"], []), "together": (["changes"], []), "net": ([], []), "told_of": (["number"], []),
          "asks": ([], []), "shows": (["number"], []), "twin": ([], [])}
LISTS = (least_walks, least_simple, front_of)


class Interface(unittest.TestCase):
    def test_each_function_is_in_its_module(self):
        modules = {"nets": (is_net, way_of, is_simple), "prices": (prices_of, are_prices),
                   "walks": (count_of, count_to, walk_of, number_of, least_walks), "simple": (least_simple,),
                   "papers": (shown_by, paper_of), "apart": (cost_apart, least_apart),
                   "bounds": (bound_shows, bound_of), "fronts": (front_of, within, fence_of, is_fence, front_holds),
                   "changes": (changed, way_behind, paper_behind, span_of), "texts": (net_text, way_text, net_read),
                   "office": (Office,), "desk": (Desk,)}
        for name, things in modules.items():
            module = importlib.import_module(f"waysranked.{name}")
            for thing in things:
                self.assertIs(getattr(module, thing.__name__), thing)
                self.assertEqual(thing.__module__, f"waysranked.{name}")
        self.assertEqual(sum(map(len, modules.values())), len(CALLS) + 2)

    def test_the_names_and_what_may_be_left_out(self):
        for asked, by_place, by_name in CALLS:
            left_out = {name: LEFT_OUT[name] for name in by_name}
            if "by" in by_name:
                left_out["many"] = 2
            self.assertEqual(parameters(asked), (list(by_place), list(by_name), left_out), asked.__name__)

    def test_the_classes(self):
        self.assertEqual(parameters(Office), (["net"], [], {}))
        self.assertEqual(parameters(Desk), ([], [], {}))
        office = Office(FORK)
        for name, (by_place, by_name) in OFFICE.items():
            self.assertTrue(inspect.isfunction(vars(Office)[name]), name)
            self.assertEqual(parameters(getattr(office, name)), (by_place, by_name, {"many": 3} if by_name else {}))
        self.assertEqual(parameters(Desk().say), (["line"], [], {}))

    def test_those_behind_the_star_by_their_names_alone(self):
        for asked, by_place, by_name in CALLS:
            for many in range(1, len(by_name) + 1):
                with self.assertRaises(TypeError, msg=asked.__name__):
                    asked(*by_place.values(), *list(by_name.values())[:many])


class Asked(unittest.TestCase):
    def test_by_places_and_by_names_in_whatever_order(self):
        for asked, by_place, by_name in CALLS:
            due = asked(*by_place.values(), **by_name)
            both = {**by_place, **by_name}
            for order in itertools.permutations(both):
                self.assertEqual(asked(**{name: both[name] for name in order}), due, (asked.__name__, order))
            # Some by their places, the others by names.
            for many in range(len(by_place)):
                names = list(by_place)[many:][::-1]
                told = asked(*list(by_place.values())[:many], **by_name, **{name: by_place[name] for name in names})
                self.assertEqual(told, due, asked.__name__)

    def test_of_none_of_them_nothing_is_told(self):
        # So that no order of arguments could be told as another one's answer.
        for asked, by_place, by_name in CALLS:
            self.assertIsNotNone(asked(*by_place.values(), **by_name), asked.__name__)

    def test_what_is_handed_in_is_as_it_was(self):
        for asked, by_place, by_name in CALLS:
            both = {**by_place, **by_name}
            before = repr(both)
            asked(**both)
            self.assertEqual(repr(both), before, asked.__name__)
            for name in both:
                for odd in odd_things():
                    handed = copy.deepcopy({**both, name: odd})
                    before = repr(handed)
                    try:
                        asked(**handed)
                    except WayError as refusal:
                        self.assertIn(type(refusal).__base__, (NoThing, NotNow))
                    self.assertEqual(repr(handed), before, asked.__name__)

    def test_asked_again_the_same_is_told(self):
        first = [asked(*by_place.values(), **by_name) for asked, by_place, by_name in CALLS]
        for (asked, by_place, by_name), due in reversed(list(zip(CALLS, first))):
            for odd in (None, [], "x"):
                try:
                    asked(**{**by_place, **by_name, list(by_place)[0]: odd})
                except WayError:
                    pass
            again = copy.deepcopy((by_place, by_name))
            self.assertEqual(asked(**again[0], **again[1]), due, asked.__name__)

    def test_lists_told_are_new(self):
        for asked, by_place, by_name in CALLS:
            told = asked(*by_place.values(), **by_name)
            self.assertEqual(type(told) is list, asked in LISTS, asked.__name__)
            if type(told) is list:
                due = list(told)
                told.reverse()
                told.append(None)
                self.assertEqual(asked(*by_place.values(), **by_name), due, asked.__name__)

    def test_what_is_handed_in_is_not_kept(self):
        for asked, by_place, by_name in CALLS:
            both = {**by_place, **by_name}
            due = asked(**both)
            for name in both:
                odd = [1, [2]]
                first = self.told_or_refused(asked, {**both, name: odd})
                odd[1].append(3)
                odd.clear()
                self.assertEqual(asked(**both), due, asked.__name__)
                self.assertEqual(self.told_or_refused(asked, {**both, name: [1, [2]]}), first, asked.__name__)

    def told_or_refused(self, asked, handed):
        try:
            return asked(**handed)
        except WayError as refusal:
            return type(refusal)


class Refusals(unittest.TestCase):
    def test_no_net_is_refused_first_by_all(self):
        for asked, by_place, by_name in CALLS:
            if "net" in by_place:
                self.assertEqual(list(by_place)[0], "net")
                for odd in odd_things():
                    for others in ({}, {name: None for name in (*by_place, *by_name)}):
                        with self.assertRaises(WayError) as caught:
                            asked(**{**by_place, **by_name, **others, "net": odd})
                        self.assertEqual(type(caught.exception).__name__, "NoNet", asked.__name__)
        for odd in odd_things():
            with self.assertRaises(WayError) as caught:
                Office(odd)
            self.assertEqual(type(caught.exception).__name__, "NoNet")

    def test_no_place_is_refused_next(self):
        for asked, by_place, by_name in CALLS:
            for name in ("place", "start", "goal"):
                if name in by_place:
                    for odd in (*odd_things(), 4, -1, ()):
                        behind = list(both for both in (*by_place, *by_name) if both not in ("net", "start", name))
                        for others in ({}, {other: None for other in behind}):
                            with self.assertRaises(WayError) as caught:
                                asked(**{**by_place, **by_name, **others, name: odd})
                            self.assertEqual(type(caught.exception).__name__, "NoPlace", asked.__name__)

    def test_no_number_of_ways_that_is_let(self):
        for asked, by_place, by_name in CALLS:
            if "many" in (*by_place, *by_name):
                for odd in (*odd_things(), 41, "2", (2,)):
                    with self.assertRaises(WayError) as caught:
                        asked(**{**by_place, **by_name, "many": odd})
                    self.assertEqual(type(caught.exception).__name__, "NoMany", asked.__name__)


class Together(unittest.TestCase):
    def ends(self):
        """Nets with a start and a goal."""
        nets = made_nets() + [ringed_net(seed, 4 + seed % 7, 14 + 2 * (seed % 8), 20) for seed in range(20)]
        return [(net, start, goal) for net in nets for start, goal in ((0, net[0] - 1), (net[0] - 1, net[0] // 2))]

    def test_the_least_cost_is_the_same_whoever_tells_it(self):
        seen = [0, 0]
        for net, start, goal in self.ends():
            price = prices_of(net, goal)[start]
            ways = least_simple(net, start, goal, many=12)
            seen[price is None] += 1
            if price is None:
                self.assertEqual((ways, least_walks(net, start, goal, 3), front_of(net, start, goal)), ([], [], []))
                self.assertEqual(paper_of(net, start, goal)[0], ())
                self.assertIs(within(net, start, goal, 10 ** 29), None)
                self.assertEqual(fence_of(net, start)[goal], ())
            else:
                self.assertEqual(way_of(net, start, ways[0])[:2], (goal, price))
                self.assertEqual(front_of(net, start, goal)[0][0], price)
                self.assertEqual(fence_of(net, start)[goal][0][0], price)
                self.assertEqual(way_of(net, start, within(net, start, goal, 10 ** 29))[:2], (goal, price))
                self.assertEqual(walk_of(net, start, goal, 0), ways[0])
                self.assertEqual(number_of(net, start, goal, ways[0]), 0)
                self.assertEqual(count_to(net, start, goal, price), count_of(net, start, goal, price))
            if start != goal:
                for by in ("roads", "places"):
                    shown = bound_shows(net, start, goal, bound_of(net, start, goal, many=1, by=by), many=1, by=by)
                    least = least_apart(net, start, goal, many=1, by=by)
                    self.assertEqual(shown, "none" if price is None else price)
                    self.assertEqual(least is None, price is None)
                    if least is not None:
                        self.assertEqual(cost_apart(net, start, goal, least, many=1, by=by), price)
        self.assertGreater(min(seen), 10)

    def test_simple_ways_are_the_walks_that_are_simple(self):
        for net, start, goal in self.ends():
            walks = least_walks(net, start, goal, 40)
            simple = [walk for walk in walks if is_simple(net, start, walk)][:12]
            self.assertEqual(least_simple(net, start, goal, many=12)[:len(simple)], simple)

    def test_lookers_tell_of_what_is_told_that_it_shows(self):
        for net, start, goal in self.ends():
            self.assertIs(is_net(net), True)
            self.assertIs(are_prices(net, goal, prices_of(net, goal)), True)
            self.assertIs(is_fence(net, start, fence_of(net, start)), True)
            self.assertIs(front_holds(net, start, goal, front_of(net, start, goal), fence_of(net, start)), True)
            for many in (1, 3, 12):
                told, paper = paper_of(net, start, goal, many=many)
                more = len(least_simple(net, start, goal, many=min(many + 1, 12))) > len(told)
                self.assertIn(shown_by(net, start, goal, told, paper), ("least",) if more else ("least", "all"))
                if len(told) < many:
                    self.assertEqual(shown_by(net, start, goal, told, paper), "all")

    def test_a_span_is_where_a_turn_keeps_the_told_list(self):
        for seed in range(10):
            net = ringed_net(seed, 5, 11, 12)
            for road in range(11):
                low, high = span_of(net, 0, 3, road)
                told = least_simple(net, 0, 3)
                for price in {low, high, max(1, low - 1), min(99, high + 1)}:
                    same = least_simple(changed(net, (road, price)), 0, 3) == told
                    self.assertEqual(same, low <= price <= high)

    def test_a_desk_an_office_and_texts_by_the_same_deeds(self):
        for seed in range(15):
            dice = Dice(seed)
            net = ringed_net(seed, 4 + seed % 3, 12, 9)
            office, desk = Office(net), Desk()
            desk.say("net " + net_text(net).replace("\n", ";").replace(" ", ","))
            for _ in range(25):
                self.deed(office, desk, dice)
                for number in office.asks():
                    told, paper = office.told_of(number)
                    self.assertEqual(desk.say(f"ways {number}"), " ".join(map(way_text, told)) or "none")
                    self.assertEqual(desk.say(f"shows {number}"), office.shows(number))
                self.assertEqual(net_read(net_text(office.net())), office.net())

    def deed(self, office, desk, dice):
        word = dice.below(5)
        if word == 0 and len(office) < 12:
            start, goal, many = dice.below(4), dice.below(4), 1 + dice.below(12)
            self.assertEqual(desk.say(f"ask {start} {goal} {many}"), str(office.ask(start, goal, many=many)))
        elif word == 1 and office.asks():
            number = office.asks()[dice.below(len(office))]
            self.assertIs(office.drop(number), None)
            self.assertEqual(desk.say(f"drop {number}"), "ok")
        elif office.net()[1]:
            road, price = dice.below(len(office.net()[1])), 1 + dice.below(12)
            kept, anew = office.turn(road, None if word == 2 else price)
            line = f"shut {road}" if word == 2 else f"turn {road} {price}"
            self.assertEqual(desk.say(line), " ".join(map(str, ["kept", *kept, "anew", *anew])))
        if word == 4:
            office.undo()
            self.assertEqual(desk.say("undo"), "ok")

    def test_no_refusal_changes_anything(self):
        office, desk = Office(NET), Desk()
        office.ask(0, 3)
        desk.say("ask 0 1 1")
        twin = office.twin()
        for odd in odd_things():
            for deed in (lambda: office.ask(odd, odd), lambda: office.ask(0, 3, many=odd), lambda: office.drop(odd),
                         lambda: office.turn(odd, odd), lambda: office.together((odd,)),
                         lambda: office.together(((0, 5), odd)), lambda: office.told_of(odd),
                         lambda: office.shows(odd), lambda: desk.say(odd)):
                self.assertRaises(WayError, deed)
            self.assertTrue(office == twin)
            self.assertEqual(len(office), 1)
        office.undo()
        self.assertEqual(office.asks(), [])
        self.assertEqual((desk.say("ways 0"), desk.say("undo")), ("none", "ok"))


if __name__ == "__main__":
    unittest.main()
