"""Point 80, and points 2, 3, 4 as they bear on it."""

import copy
import unittest

from samples import NET, made_nets, odd_things, parameters
from waysranked.errors import NoNet, NoText, NoWay
from waysranked.texts import net_read, net_text, way_text

GOOD = "3\n0 1 5 0\n1 2 99 99\n2 0 1 10"


class Nets(unittest.TestCase):
    def test_by_hand(self):
        self.assertEqual(net_text((1, ())), "1")
        self.assertEqual(net_text((10, ())), "10")
        self.assertEqual(net_text((2, ((0, 1, 99, 0),))), "2\n0 1 99 0")
        self.assertEqual(net_text((3, ((0, 1, 5, 0), (1, 2, 99, 99), (2, 0, 1, 10)))), GOOD)
        self.assertEqual(net_read("1"), (1, ()))
        self.assertEqual(net_read("10"), (10, ()))
        self.assertEqual(net_read("2\n0 1 99 0"), (2, ((0, 1, 99, 0),)))
        self.assertEqual(net_read(GOOD), (3, ((0, 1, 5, 0), (1, 2, 99, 99), (2, 0, 1, 10))))

    def test_written_and_read(self):
        for net in made_nets():
            before = repr(net)
            text = net_text(net)
            self.assertIs(type(text), str)
            lines = [f"{net[0]}"] + [f"{one} {other} {price} {took}" for one, other, price, took in net[1]]
            self.assertEqual(text.split("\n"), lines)
            self.assertEqual(net_read(text), net)
            self.assertEqual(repr(net_read(text)), before)
            self.assertEqual(repr(net), before)

    def test_thirty_roads(self):
        net = (2, tuple((0, 1, 1 + at, at) for at in range(30)))
        self.assertEqual(net_text(net).count("\n"), 30)
        self.assertEqual(net_read(net_text(net)), net)

    def test_no_net(self):
        for odd in (*odd_things(), (), 5, list(NET), (11, ()), (True, ()), GOOD, (1, ((0, 0, 1, 0),))):
            before = repr(odd)
            with self.assertRaises(NoNet) as caught:
                net_text(odd)
            self.assertIs(type(caught.exception), NoNet)
            self.assertEqual(repr(odd), before)


class Read(unittest.TestCase):
    def wrong(self, at, text):
        before = repr(text)
        with self.assertRaises(NoText, msg=before[:300]) as caught:
            net_read(text)
        self.assertIs(type(caught.exception), NoText)
        self.assertIs(type(caught.exception.at), int)
        self.assertEqual(caught.exception.at, at, before[:300])
        self.assertEqual(repr(text), before)

    def test_what_is_no_text(self):
        for odd in odd_things():
            if type(odd) is not str:
                self.wrong(-1, odd)
        for odd in ((), 0, 1, 2, [GOOD], (GOOD,), {GOOD: GOOD}, GOOD.split("\n"), NET, None, True):
            self.wrong(-1, odd)

    def test_the_first_line(self):
        for odd in ("", "0", "11", "12", "99", "100", "01", "001", "010", "00", "+1", "-1", "1 ", " 1", " ", "\t1",
                    "1\t", "1.0", "one", "a", "0x1", "1_0", "1e0", "1 0", "(1, ())", "1;", "1,", "~", "3 0 1 5 0",
                    "9" * 31, "1" * 3999, "0" * 4000, "9" * 5000, "10 "):
            self.wrong(0, odd)
            self.wrong(0, odd + "\n")
            self.wrong(0, odd + "\n0 1 5 0")
            self.wrong(0, "\n" + odd)
        for places in range(1, 11):
            self.assertEqual(net_read(str(places)), (places, ()))

    def test_a_wrong_line_among_others(self):
        lines = GOOD.split("\n")
        for odd in ("", " ", "0", "0 1", "0 1 5", "0 1 5 0 0", "0 1 5 0 ", " 0 1 5 0", "0  1 5 0", "0 1  5 0",
                    "0 1 5  0", "0\t1 5 0", "0 1 5 0\t", "\t0 1 5 0", "00 1 5 0", "0 01 5 0", "0 1 05 0", "0 1 5 00",
                    "0 1 5 01", "+0 1 5 0", "0 +1 5 0", "0 1 +5 0", "0 1 5 +0", "-0 1 5 0", "0 1 5 -0", "0 1 -5 0",
                    "-1 1 5 0", "0 1 0 0", "0 1 100 0", "0 1 5 100", "0 1 5 -1", "3 1 5 0", "0 3 5 0", "0 10 5 0",
                    "0 0 5 0", "1 1 5 0", "2 2 5 0", "a 1 5 0", "0 1 5 a", "0,1,5,0", "0-1-5-0", "(0, 1, 5, 0)",
                    "0 1 5 0;", "0 1 5_0 0", "0 1 5.0 0", "0 1 5 0 1 2 5 0", "0 1 " + "9" * 30 + " 0",
                    "9" * 31 + " 1 5 0", "0 1 5 " + "1" * 3900, "0 1 5 " + "0" * 3900, "0 1 5 " + "7" * 5000,
                    "x" * 3900, "0 1 1 0x", "0 1 1e1 0", "None 1 5 0"):
            for at in (1, 2, 3):
                text = "\n".join([*lines[:at], odd, *lines[at:]])
                self.wrong(at, text)
                # The first of several is told.
                self.wrong(at, "\n".join([text, odd]))
                self.wrong(at, "\n".join([text, ""]))
            self.wrong(4, "\n".join([*lines, odd]))

    def test_each_number_of_a_road(self):
        for at, least, most in ((0, 0, 2), (1, 0, 2), (2, 1, 99), (3, 0, 99)):
            for number in (*range(-2, 13), 50, 98, 99, 100, 101, 999):
                road = [0, 1, 5, 0]
                road[at] = number
                text = "3\n2 0 1 1\n" + " ".join(map(str, road))
                if least <= number <= most and road[0] != road[1]:
                    self.assertEqual(net_read(text), (3, ((2, 0, 1, 1), tuple(road))))
                else:
                    self.wrong(2, text)

    def test_line_ends(self):
        self.wrong(1, "3\n")
        self.wrong(4, GOOD + "\n")
        self.wrong(4, GOOD + "\n\n")
        self.wrong(0, "\n" + GOOD)
        self.wrong(0, "\n")
        self.wrong(2, "3\n0 1 5 0\n\n1 2 99 99")

    def test_a_place_that_more_places_would_let(self):
        for places in range(1, 11):
            for one, other in ((0, places), (places, 0)):
                self.wrong(1, f"{places}\n{one} {other} 5 5")
        self.wrong(1, "1\n0 1 5 5")
        self.wrong(1, "1\n0 0 5 5")
        self.assertEqual(net_read("10\n9 8 5 5\n0 9 1 1"), (10, ((9, 8, 5, 5), (0, 9, 1, 1))))

    def test_a_thirty_first_road(self):
        road = "\n0 1 5 5"
        self.assertEqual(len(net_read("2" + road * 30)[1]), 30)
        for more in (road, "\nx", "\n"):
            self.wrong(31, "2" + road * 30 + more)
            self.wrong(31, "2" + road * 30 + more * 3)
            self.wrong(31, "2" + road * 31 + more)
        self.wrong(31, "2" + road * 300)
        self.wrong(30, "2" + road * 29 + "\n0 0 5 5" + road * 5)
        self.wrong(0, "11" + road * 31)


class Ways(unittest.TestCase):
    def test_by_hand(self):
        self.assertEqual(way_text(()), ".")
        self.assertEqual(way_text((0,)), "0")
        self.assertEqual(way_text((29,)), "29")
        self.assertEqual(way_text((3, 0, 12)), "3-0-12")
        self.assertEqual(way_text(tuple(range(12))), "0-1-2-3-4-5-6-7-8-9-10-11")
        # Whether it is a way of any net is beside the matter.
        self.assertEqual(way_text((7, 7, 7)), "7-7-7")
        self.assertEqual(way_text(tuple(range(30)) * 20), "-".join(map(str, list(range(30)) * 20)))
        self.assertIs(type(way_text((1,))), str)

    def test_no_way(self):
        for odd in (*odd_things(), [], [0], [0, 1], (-1,), (30,), (31,), (0, 30), (0, -1), (True,), (False,), (0, True),
                    (None,), ("0",), ("",), (0, "1"), (0, (1,)), ([0],), (10 ** 29,), "", "0", ".", "0-1", 0, 1,
                    None, True, {}, {0: 1}, ({},)):
            before = repr(odd)
            with self.assertRaises(NoWay, msg=before[:200]) as caught:
                way_text(odd)
            self.assertIs(type(caught.exception), NoWay)
            self.assertEqual(repr(odd), before)

    def test_each_number(self):
        for road in range(30):
            self.assertEqual(way_text((road,)), str(road))
            self.assertEqual(way_text((0, road, 29)), f"0-{road}-29")


class Asking(unittest.TestCase):
    def test_names_of_the_arguments(self):
        self.assertEqual(parameters(net_text), (["net"], [], {}))
        self.assertEqual(parameters(way_text), (["way"], [], {}))
        self.assertEqual(parameters(net_read), (["text"], [], {}))

    def test_by_names(self):
        self.assertEqual(net_text(net=(2, ())), "2")
        self.assertEqual(way_text(way=(1, 2)), "1-2")
        self.assertEqual(net_read(text="2"), (2, ()))

    def test_asked_twice_the_same_is_told(self):
        first = net_text(NET)
        with self.assertRaises(NoText):
            net_read(GOOD + "\n")
        self.assertEqual(net_text(copy.deepcopy(NET)), first)
        self.assertEqual(net_read(first), net_read(first))
        self.assertEqual(net_read(first), NET)


if __name__ == "__main__":
    unittest.main()
