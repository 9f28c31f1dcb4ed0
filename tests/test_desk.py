"""Point 81, and points 2, 3, 4 as they bear on it."""

import copy
import inspect
import itertools
import re
import unittest

from reckoning import all_simple, cost
from samples import Dice, made_net, odd_things, parameters, ringed_net
from waysranked.apart import least_apart
from waysranked.changes import span_of
from waysranked.desk import Desk
from waysranked.errors import (NoAsk, NoChange, NoLine, NoMany, NoNumber, NoPlace, NoRoad, NoText, NoWord, Nothing,
                               TooMany, WayError)
from waysranked.fronts import front_of
from waysranked.office import Office
from waysranked.walks import walk_of

# From 0 to 2: (0, 1) for 2, (0, 3) for 4, (2,) for 5. From 2 no road leads on.
THREE = (3, ((0, 1, 1, 7), (1, 2, 1, 4), (0, 2, 5, 0), (1, 2, 3, 2)))
THREE_LINE = "net 3;0,1,1,7;1,2,1,4;0,2,5,0;1,2,3,2"
N = "(?:0|[1-9][0-9]{0,29})"
FORM = re.compile(f"net [^ ]+|ask {N} {N} {N}|drop {N}|undo|turn {N} {N}|shut {N}|ways {N}|costs {N}|shows {N}|"
                  f"walk {N} {N} {N}|apart {N} {N} {N} [^ ]+|front {N} {N}|span {N} {N} {N} {N}")
# One good line of each form, to a desk with the net and an ask.
GOOD = ("ask 0 2 3", "drop 0", "undo", "turn 2 9", "shut 3", "ways 0", "costs 0", "shows 0", "walk 0 2 1",
        "apart 0 2 2 roads", "front 0 2", "span 0 2 3 1", "net 2")
FIELDS = {NoText: ("at",), NoAsk: ("number",), TooMany: ("many", "most")}


def line_of(net):
    """The line that hands in a net."""
    return "net " + ";".join([str(net[0])] + [",".join(map(str, road)) for road in net[1]])


def net_written(text):
    """The net that the TEXT of a line writes, by a look of the test's own."""
    lines = text.split(";")
    if lines[0] not in [str(places) for places in range(1, 11)]:
        raise NoText(0)
    roads = []
    for at, line in enumerate(lines[1:], 1):
        if at > 30 or not re.fullmatch("(?:0|[1-9][0-9]?)(?:,(?:0|[1-9][0-9]?)){3}", line):
            raise NoText(at)
        one, other, price, took = map(int, line.split(","))
        if one == other or max(one, other) >= int(lines[0]) or price == 0:
            raise NoText(at)
        roads.append((one, other, price, took))
    return (int(lines[0]), tuple(roads))


def spelled(way):
    return "-".join(map(str, way)) or "."


class Shadow:
    """A desk as the test itself keeps it, by an office and the functions."""

    def __init__(self):
        self.office = Office((2, ()))

    def say(self, line):
        if type(line) is not str or not FORM.fullmatch(line):
            raise NoLine("")
        word, *rest = line.split(" ")
        if word == "net":
            self.office = Office(net_written(rest[0]))
            return "ok"
        parts = [int(part) if re.fullmatch(N, part) and at < 3 or word == "span" else part
                 for at, part in enumerate(rest)]
        return getattr(self, word)(*parts)

    def ask(self, start, goal, many):
        return f"{self.office.ask(start, goal, many=many)}"

    def drop(self, number):
        self.office.drop(number)
        return "ok"

    def undo(self):
        self.office.undo()
        return "ok"

    def turn(self, road, price):
        kept, anew = self.office.turn(road, price)
        return " ".join(map(str, ("kept", *kept, "anew", *anew)))

    def shut(self, road):
        return self.turn(road, None)

    def ways(self, number):
        return " ".join(map(spelled, self.office.told_of(number)[0])) or "none"

    def costs(self, number):
        return " ".join(str(cost(self.office.net(), way)) for way in self.office.told_of(number)[0]) or "none"

    def shows(self, number):
        return self.office.shows(number)

    def walk(self, start, goal, number):
        walk = walk_of(self.office.net(), start, goal, number)
        return "none" if walk is None else spelled(walk)

    def apart(self, start, goal, many, word):
        ways = least_apart(self.office.net(), start, goal, many=many, by=word)
        return "none" if ways is None else " ".join(map(spelled, ways))

    def front(self, start, goal):
        rows = front_of(self.office.net(), start, goal)
        return " ".join(f"{price}/{took}" for price, took, _ in rows) or "none"

    def span(self, start, goal, many, road):
        return "{} {}".format(*span_of(self.office.net(), start, goal, road, many=many))


def outcome(desk, line):
    """What a desk answers, or the class of the refusal with its fields."""
    try:
        return desk.say(line)
    except WayError as refusal:
        return (type(refusal), *(getattr(refusal, name) for name in FIELDS.get(type(refusal), ())))


def state(desk):
    """All that a desk tells now, and behind each undo."""
    told = []
    desk = copy.deepcopy(desk)
    while True:
        lines = [f"{word} {number}" for number in range(13) for word in ("ways", "costs", "shows")]
        lines += [f"front {start} {goal}" for start, goal in itertools.product(range(5), repeat=2)]
        told.append([outcome(desk, line) for line in lines])
        if outcome(desk, "undo") != "ok":
            return told


def desk_of(*lines):
    desk = Desk()
    for line in lines:
        desk.say(line)
    return desk


class Answers(unittest.TestCase):
    def said(self, desk, *rows):
        for line, due in rows:
            told = desk.say(line)
            self.assertIs(type(told), str, line)
            self.assertEqual(told, due, line)

    def test_two_places_without_roads(self):
        desk = Desk()
        self.assertRaises(Nothing, desk.say, "undo")
        self.said(desk, ("ask 0 1 3", "0"), ("ways 0", "none"), ("costs 0", "none"), ("shows 0", "all"),
                  ("ask 1 1 12", "1"), ("ways 1", "."), ("costs 1", "0"), ("walk 0 1 0", "none"), ("walk 1 1 0", "."),
                  ("walk 1 1 1", "none"), ("apart 0 1 1 roads", "none"), ("apart 1 0 4 places", "none"),
                  ("front 0 1", "none"), ("front 1 1", "0/0"), ("undo", "ok"), ("undo", "ok"))
        for line in ("ask 0 2 3", "ask 2 0 3", "front 0 2", "walk 2 0 0"):
            self.assertRaises(NoPlace, desk.say, line)
        self.assertRaises(NoChange, desk.say, "turn 0 5")
        self.assertRaises(NoRoad, desk.say, "span 0 1 3 0")

    def test_by_hand(self):
        self.said(Desk(), (THREE_LINE, "ok"), ("ask 0 2 1", "0"), ("ask 0 2 2", "1"), ("ask 0 1 1", "2"),
                  ("ways 0", "0-1"), ("ways 1", "0-1 0-3"), ("ways 2", "0"), ("costs 1", "2 4"), ("costs 2", "1"),
                  ("shows 0", "least"), ("shows 2", "all"), ("turn 2 3", "kept 0 2 anew 1"), ("ways 1", "0-1 2"),
                  ("costs 1", "2 3"), ("shut 2", "kept 0 2 anew 1"), ("ways 1", "0-1 0-2"), ("undo", "ok"),
                  ("ways 1", "0-1 2"), ("undo", "ok"), ("ways 1", "0-1 0-3"), ("drop 1", "ok"),
                  ("turn 3 9", "kept 0 2 anew"), ("shut 0", "kept anew 0 2"), ("ways 0", "1"), ("ask 2 2 5", "1"),
                  ("ways 1", "."), ("costs 1", "0"))

    def test_kept_and_anew(self):
        self.said(desk_of(THREE_LINE), ("turn 0 5", "kept anew"), ("shut 3", "kept anew"))
        self.said(desk_of(THREE_LINE, "ask 0 2 1"), ("turn 0 1", "kept 0 anew"), ("shut 0", "kept anew 0"))
        desk = desk_of(THREE_LINE, *["ask 0 2 1", "ask 0 2 2"] * 6)
        self.said(desk, ("turn 2 3", "kept 0 2 4 6 8 10 anew 1 3 5 7 9 11"))

    def test_the_functions(self):
        self.said(desk_of(THREE_LINE), ("walk 0 2 0", "0-1"), ("walk 0 2 1", "0-3"), ("walk 0 2 2", "2"),
                  ("walk 0 2 3", "none"), ("walk 0 0 0", "."), ("walk 0 0 1", "none"), ("walk 2 0 0", "none"),
                  ("apart 0 2 1 roads", "0-1"), ("apart 0 2 2 roads", "0-1 2"), ("apart 0 2 3 roads", "none"),
                  ("apart 0 2 2 places", "0-1 2"), ("apart 2 0 1 places", "none"), ("front 0 2", "2/11 4/9 5/0"),
                  ("front 2 0", "none"), ("front 2 2", "0/0"), ("span 0 2 1 0", "1 4"), ("span 0 2 3 0", "1 2"),
                  ("span 0 2 2 2", "4 99"), ("span 2 0 12 3", "1 99"))

    def test_ways_of_roads_with_two_figures(self):
        net = (5, tuple((4, 0, 1, 0) for _ in range(20)) + tuple((at, at + 1, 9, 9) for at in range(4)))
        self.said(desk_of(line_of(net)), ("ask 0 4 12", "0"), ("ways 0", "20-21-22-23"), ("costs 0", "36"),
                  ("walk 0 4 0", "20-21-22-23"), ("apart 0 4 1 places", "20-21-22-23"), ("front 0 4", "36/36"),
                  ("walk 0 4 1", "20-21-22-23-0-20-21-22-23"), ("walk 0 4 20", "20-21-22-23-19-20-21-22-23"))

    def test_a_new_office_with_nothing_to_undo(self):
        desk = desk_of(THREE_LINE, "ask 0 2 3", "turn 0 5")
        self.said(desk, (THREE_LINE, "ok"))
        self.assertRaises(Nothing, desk.say, "undo")
        self.assertRaises(NoAsk, desk.say, "ways 0")
        self.said(desk, ("ask 0 2 3", "0"), ("costs 0", "2 4 5"), ("net 1", "ok"))
        self.assertRaises(Nothing, desk.say, "undo")
        self.said(desk, ("ask 0 0 1", "0"), ("net 10", "ok"), ("front 9 0", "none"))

    def test_nets_of_all_sizes(self):
        for seed, places in enumerate(range(2, 11)):
            for net in (ringed_net(seed, places, 30, 9), (places, ())):
                desk = desk_of(line_of(net))
                for start, goal in ((0, places - 1), (places - 1, 0)):
                    due = all_simple(net, start, goal)[:12]
                    number = desk.say(f"ask {start} {goal} 12")
                    self.said(desk, (f"ways {number}", " ".join(map(spelled, due)) or "none"),
                              (f"costs {number}", " ".join(str(cost(net, way)) for way in due) or "none"))

    def test_twelve_asks(self):
        desk = desk_of(THREE_LINE)
        self.said(desk, *((f"ask {at % 3} {at // 4} {1 + at}", str(at)) for at in range(12)))
        self.assertEqual(outcome(desk, "ask 0 2 3"), (TooMany, 13, 12))
        self.said(desk, ("drop 7", "ok"), ("drop 3", "ok"), ("ask 0 2 1", "3"), ("ask 0 2 1", "7"), ("ways 7", "0-1"))

    def test_each_form_as_the_office_and_the_functions_tell_it(self):
        seen = {}
        for seed in range(60):
            dice = Dice(seed)
            desk, shadow = Desk(), Shadow()
            for step in range(60):
                line = self.drawn(dice, step)
                due = outcome(shadow, line)
                self.assertEqual(outcome(desk, line), due, (seed, line))
                kind = due[0].__name__ if type(due) is tuple else "none" if due == "none" else "told"
                seen[line.split(" ")[0], kind] = seen.get((line.split(" ")[0], kind), 0) + 1
            self.assertEqual(state(desk), state(shadow))
        due = [(line.split(" ")[0], "told") for line in GOOD]
        due += [(word, "none") for word in ("ways", "costs", "walk", "apart", "front")]
        due += [(word, "NoAsk") for word in ("drop", "ways", "costs", "shows")]
        due += [("undo", "Nothing"), ("net", "NoText"), ("turn", "NoChange"), ("shut", "NoChange"), ("ask", "NoMany"),
                ("ask", "NoPlace"), ("span", "NoRoad"), ("span", "NoMany"), ("apart", "NoWord"), ("apart", "NoMany"),
                ("walk", "NoPlace"), ("front", "NoPlace")]
        for key in due:
            self.assertGreater(seen.get(key, 0), 5, (key, seen))

    def drawn(self, dice, step):
        """A line of some form, with numbers that are mostly good ones."""
        if step == 2 or dice.below(30) == 0:
            make = (made_net, ringed_net)[dice.below(2)]
            line = line_of(make(dice.below(1000), 3 + dice.below(3), 6 + dice.below(8), 12))
            return line + ";0,0,1,1" if dice.below(3) == 0 else line

        def place():
            return dice.below(6 if dice.below(8) == 0 else 3)

        many, road, number = dice.below(14), dice.below(12), dice.below(4)
        return (f"ask {place()} {place()} {many}", f"ask {place()} {place()} 3", f"ask {place()} {place()} 1",
                f"drop {number}", "undo", f"turn {road} {1 + dice.below(12)}", f"turn {road} {dice.below(130)}",
                f"shut {2 * road}", f"ways {number}", f"costs {number}", f"shows {number}",
                f"walk {place()} {place()} {dice.below(40)}", f"span {place()} {place()} {many} {road}",
                f"apart {place()} {place()} {dice.below(6)} {('roads', 'places', 'road')[dice.below(3)]}",
                f"front {place()} {place()}")[dice.below(15)]


class Refused(unittest.TestCase):
    def refused(self, due, line, *lines):
        """It is refused so, and behind it all is as it was, to a desk that was told the lines, a net and an ask."""
        desk = desk_of(THREE_LINE, "ask 0 2 3", "turn 2 3", *lines)
        before, handed = state(desk), repr(line)
        told = outcome(desk, line)
        self.assertEqual(told, due if type(due) is tuple else (due,), handed[:300])
        self.assertEqual(repr(line), handed)
        self.assertEqual(state(desk), before, handed[:300])

    def no_line(self, line, desk):
        with self.assertRaises(NoLine, msg=repr(line)[:300]) as caught:
            desk.say(line)
        self.assertIs(type(caught.exception), NoLine)

    def test_as_the_functions_and_the_office_refuse(self):
        for due, *lines in (
            (NoPlace, "ask 3 2 3", "ask 0 3 3", "ask 10 10 0", "walk 3 0 0", "walk 0 3 0", "apart 3 0 1 roads",
             "apart 0 3 1 roads", "apart 0 0 1 roads", "apart 1 1 0 x", "front 3 0", "front 0 3", "span 3 0 1 0",
             "span 0 3 0 9"),
            (NoMany, "ask 0 2 0", "ask 0 2 13", "apart 0 2 0 roads", "apart 0 2 5 x", "span 0 2 0 0", "span 0 2 13 3"),
            (NoWord, "apart 0 2 1 road", "apart 0 2 1 1", "apart 0 2 2 Roads", "apart 0 2 2 roads\n",
             "apart 0 2 2 \troads", "apart 0 2 2 none", "apart 0 2 2 roads,places", "apart 0 2 2 ~"),
            (NoChange, "turn 4 5", "turn 0 0", "turn 0 100", "turn 9 0", "shut 4", "shut 99"),
            (NoRoad, "span 0 2 3 4", "span 0 2 0 4", "span 2 2 3 30"),
            (NoNumber, "walk 0 2 1000000000000001", "walk 2 2 9999999999999999"),
        ):
            for line in lines:
                self.refused(due, line)
        for word in ("drop", "ways", "costs", "shows"):
            for number in (1, 2, 12, 10 ** 15):
                self.refused((NoAsk, number), f"{word} {number}")
        self.refused((TooMany, 13, 12), "ask 0 2 3", *["ask 0 1 1"] * 11)
        self.assertEqual(outcome(Desk(), "undo"), (Nothing,))
        self.assertEqual(outcome(Desk(), "drop 0"), (NoAsk, 0))

    def test_what_is_no_text(self):
        for odd in (*odd_things(), (), 0, 1, None, True, ["undo"], ("undo",), {"undo": 1}, [THREE_LINE],
                    ("ask", 0, 2, 3)):
            if type(odd) is not str:
                self.refused(NoLine, odd)

    def test_lines_of_no_such_form(self):
        desk = desk_of(THREE_LINE, "ask 0 2 3", "turn 2 3")
        before = state(desk)
        for line in GOOD:
            first = line.split(" ")[0]
            for odd in (" " + line, line + " ", "  " + line, line + "  ", line + "\n", "\n" + line, line + "\t",
                        "\t" + line, line.upper(), line.capitalize(), first[:-1] + line[len(first):], "x" + line,
                        first + "s" + line[len(first):], line + " 0", line + " x", line + " 0 0", line + "\n" + line,
                        line.replace(" ", "  ", 1), line.replace(" ", "\t", 1), line.replace(" ", "\n", 1),
                        line.replace(" ", "", 1), line.replace(" ", ",", 1), "say " + line, line + " " + line):
                # What is no word more in a net's TEXT is another matter, and so is the last word of apart.
                if not FORM.fullmatch(odd):
                    self.no_line(odd, desk)
            if line != "undo":
                self.no_line(line.rpartition(" ")[0], desk)
                self.no_line(line.rpartition(" ")[0] + " ", desk)
                self.no_line(first, desk)
                self.no_line(first + " ", desk)
        for odd in ("", " ", "  ", "\n", "\t", "x", "0", "none", "ok", "quit", "kept anew", "together", "together 0 5",
                    "twin", "net", "net ", "net  2", "net 2 0 1 5 5", "net 2;0 1 5 5", "net 3\n0 1 1 1", "nets 2",
                    "undo 1", "undo undo", "Undo", "UNDO", "undo.", "shows", "turn 0", "turn 0 5 5", "turn 0 None",
                    "shut 0 5", "ask 0 2", "ask 0 2 3 3", "front 0", "front 0 2 2", "walk 0 2", "apart 0 2 2",
                    "apart 0 2 2 ", "apart 0 2 2 roads places", "apart 0 2 roads 2", "span 0 2 3", "span 0 2 3 1 1",
                    "x" * 4000, "ask " * 1000, " " * 4000):
            self.no_line(odd, desk)
        self.assertEqual(state(desk), before)

    def test_numbers_of_no_such_form(self):
        desk = desk_of(THREE_LINE, "ask 0 2 3", "turn 2 3")
        before = state(desk)
        for line in GOOD[:-1]:
            words = line.split(" ")
            for at in range(1, len(words)):
                if words[at].isdigit():
                    for odd in ("00", "01", "007", "+0", "+1", "-0", "-1", "0.0", "1.", "1e0", "0x1", "1_0", "a",
                                "None", "True", "()", ".", "0-1", "0,1", "1;", "", "0\n", "\n0", "0\t", "\t0", "0" * 30,
                                "0" + "1" * 29, "9" * 31, "1" + "0" * 30, "9" * 3900, "0" * 3900, "9" * 5000):
                        self.no_line(" ".join([*words[:at], odd, *words[at + 1:]]), desk)
        self.assertEqual(state(desk), before)

    def test_no_line_ahead_of_all_else(self):
        # Each would be refused otherwise if its form were one.
        desk = Desk()
        for odd in ("ask 9 9 99 ", "ask 9 9 099", "ask 9 9", "drop 7 7", "undo ", "turn 9 999 ", "turn 9 +1", "shut -1",
                    "ways 5 ", "costs 05", "shows 5 5", "walk 9 9 -1", "apart 9 9 9", "apart 9 9 9 x y", "front 9 9 9",
                    "span 9 9 99 9 ", "net 11 ", "net 0 0", " net x"):
            self.no_line(odd, desk)

    def test_numbers_of_thirty_figures(self):
        for number in (10 ** 29, 10 ** 30 - 1):
            for due, *lines in (
                (NoPlace, f"ask {number} 2 3", f"ask 0 {number} 3", f"walk {number} 0 0", f"walk 0 {number} 0",
                 f"apart {number} 0 1 roads", f"apart 0 {number} 1 roads", f"front {number} 0", f"front 0 {number}",
                 f"span {number} 0 1 0", f"span 0 {number} 1 0"),
                (NoMany, f"ask 0 2 {number}", f"apart 0 2 {number} roads", f"span 0 2 {number} 0"),
                (NoRoad, f"span 0 2 1 {number}"), (NoNumber, f"walk 0 2 {number}"), (NoWord, f"apart 0 2 1 {number}"),
                (NoChange, f"turn {number} 5", f"turn 0 {number}", f"shut {number}"),
                ((NoText, 0), f"net {number}"), ((NoText, 1), f"net 2;0,1,{number},0"),
            ):
                for line in lines:
                    self.refused(due, line)
            for word in ("drop", "ways", "costs", "shows"):
                self.refused((NoAsk, number), f"{word} {number}")

    def test_a_net_whose_text_is_wrong(self):
        for at, *texts in (
            (0, "0", "11", "01", "+2", "x", "2,", ",2", "2,0,1,5,5", ";", "2\n", "\n2", "2\n0,1,5,5", "2\t", "-1", "~",
             "2\n;0,1,5,5", "\n", "(2,())", "3:0,1,5,5", "9" * 31, "9" * 3900),
            (1, "2;", "2;;", "2;0,1,5", "2;0,1,5,5,5", "2;0,1,5,5,", "2;,0,1,5,5", "2;0,,1,5,5", "2;0,0,5,5",
             "2;0,2,5,5", "2;0,1,0,5", "2;0,1,100,5", "2;0,1,5,100", "2;0,1,05,5", "2;0,1,5,5\n", "2;\n0,1,5,5",
             "2;0,1,5\n5", "2;0,1,5,5\n1,0,5,5", "2;0,1,5,5\n;x", "2;0\t1,5,5", "2;0-1-5-5", "2;x;y",
             "2;" + "1," * 1900, "1;0,1,5,5", "2;0,1,5,+5", "2;0,1," + "9" * 31 + ",5"),
            (2, "2;0,1,5,5;", "2;0,1,5,5;1,1,5,5", "2;0,1,5,5;\n", "2;0,1,5,5;1,0,5,5\n", "2;0,1,5,5;0,1,5,5,;"),
            (30, "2" + ";0,1,5,5" * 29 + ";0,1,5,a", "2" + ";0,1,5,5" * 29 + ";" + ";0,1,5,5" * 9),
            (31, "2" + ";0,1,5,5" * 31, "2" + ";0,1,5,5" * 30 + ";", "2" + ";0,1,5,5" * 30 + ";x;y"),
        ):
            for text in texts:
                self.refused((NoText, at), "net " + text)
        self.assertEqual(Desk().say("net 2" + ";0,1,5,5" * 30), "ok")

    def test_behind_refusals_all_is_as_it_was(self):
        wrong = ("", "undo ", "ask 9 9 9", "drop 9", "turn 99 9", "shut 99", "net 0", "net 2;x", "ways 12", "costs 12",
                 "shows 12", "walk 9 9 9", "apart 0 0 1 roads", "front 9 9", "span 9 9 9 9", None, 5, ["undo"])
        telling = ("ways 0", "costs 0", "shows 0", "walk 0 2 1", "apart 0 2 2 roads", "front 0 2", "span 0 2 3 1")
        one, other = Desk(), Desk()
        for line in (THREE_LINE, "ask 0 2 3", "ask 0 1 1", "turn 2 1", "drop 1", "shut 1", "ask 1 2 2", "undo"):
            self.assertEqual(one.say(line), other.say(line))
            for odd in wrong:
                self.assertRaises(WayError, other.say, odd)
            for row in telling:
                outcome(other, row)
            self.assertEqual(state(one), state(other))
        self.assertEqual(len(state(one)), 6)


class Asking(unittest.TestCase):
    def test_the_class_has_its_methods_itself(self):
        for name in ("say", "__init__"):
            self.assertTrue(inspect.isfunction(vars(Desk).get(name)), name)

    def test_names_of_the_arguments(self):
        self.assertEqual(parameters(Desk), ([], [], {}))
        self.assertEqual(parameters(Desk().say), (["line"], [], {}))
        desk = Desk()
        self.assertEqual(desk.say(line=THREE_LINE), "ok")
        self.assertEqual(desk.say(line="ask 0 2 1"), "0")

    def test_each_desk_has_an_office_of_its_own(self):
        one, other = Desk(), Desk()
        one.say(THREE_LINE)
        one.say("ask 0 2 3")
        self.assertEqual(state(other), state(Desk()))
        self.assertEqual(other.say("ask 0 1 1"), "0")
        self.assertEqual((one.say("ways 0"), other.say("ways 0")), ("0-1 0-3 2", "none"))

    def test_asked_twice_the_same_is_told(self):
        desk = desk_of(THREE_LINE, "ask 0 2 3", "turn 0 4")
        for line in ("ways 0", "costs 0", "shows 0", "walk 0 2 1", "apart 0 2 2 places", "front 0 2", "span 0 2 3 1",
                     "ways 1", "x"):
            self.assertEqual(outcome(desk, line), outcome(desk, line))

    def test_nothing_hangs_on_what_was_handed_in_earlier(self):
        desk = Desk()
        line = ["undo"]
        self.assertRaises(NoLine, desk.say, line)
        line[0] = "ask 0 1 1"
        self.assertRaises(NoLine, desk.say, line)
        self.assertEqual(desk.say(line[0]), "0")


if __name__ == "__main__":
    unittest.main()
