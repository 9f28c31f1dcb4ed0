"""Points 10, 11, and 2, 3, 4 as they bear on nets and ways."""

import copy
import inspect
import itertools
import unittest

from samples import NET, odd_things, with_part
from waysranked.errors import NoNet, NoPlace
from waysranked.nets import is_net, is_simple, way_of

ROAD = (0, 1, 1, 0)
ROUND = ((0, 1, 3, 4), (1, 0, 5, 6))


def with_road(road, *, places=4):
    """A net of which the middle road is this one."""
    return (places, ((0, 1, 5, 5), road, (1, 0, 5, 5)))


def shape(thing):
    """What tells things apart that Python takes for equal, as 1 and True."""
    return repr(thing)


class Checked(unittest.TestCase):
    def net(self, thing):
        before = shape(thing)
        self.assertIs(is_net(thing), True, before[:200])
        self.assertEqual(shape(thing), before)

    def no_net(self, thing):
        before = shape(thing)
        self.assertIs(is_net(thing), False, before[:200])
        self.assertEqual(shape(thing), before)


class Nets(Checked):
    def test_ordinary_nets(self):
        self.net(NET)
        self.net((2, ()))
        self.net((2, (ROAD,)))
        self.net(with_road((3, 0, 50, 50)))

    def test_how_many_places(self):
        for places in (1, 2, 9, 10):
            self.net((places, ()))
        for places in (-1, 0, 11, 12, 10 ** 29, -(10 ** 29)):
            self.no_net((places, ()))

    def test_how_many_roads(self):
        for many in (0, 1, 29, 30):
            self.net((2, (ROAD,) * many))
            self.net((10, tuple((at % 10, (at + 1) % 10, at + 1, at) for at in range(many))))
        for many in (31, 32, 999):
            self.no_net((2, (ROAD,) * many))

    def test_where_a_road_leads(self):
        for one, other in itertools.product(range(-2, 7), repeat=2):
            with self.subTest(one=one, other=other):
                good = one != other and 0 <= one <= 3 and 0 <= other <= 3
                (self.net if good else self.no_net)(with_road((one, other, 5, 5)))

    def test_a_place_that_one_more_place_would_let(self):
        for places in range(2, 11):
            self.net((places, ((places - 1, 0, 1, 1),)))
            self.net((places, ((0, places - 1, 1, 1),)))
            self.no_net((places, ((places, 0, 1, 1),)))
            self.no_net((places, ((0, places, 1, 1),)))

    def test_one_place_has_no_road(self):
        self.no_net((1, (ROAD,)))
        self.no_net((1, ((0, 0, 1, 0),)))

    def test_cost(self):
        for cost in (1, 2, 98, 99):
            self.net(with_road((2, 3, cost, 5)))
        for cost in (-99, -1, 0, 100, 101, 10 ** 29):
            self.no_net(with_road((2, 3, cost, 5)))

    def test_time(self):
        for time in (0, 1, 98, 99):
            self.net(with_road((2, 3, 5, time)))
        for time in (-99, -1, 100, 101, 10 ** 29):
            self.no_net(with_road((2, 3, 5, time)))

    def test_several_roads_from_one_to_the_same_other_one(self):
        self.net((2, ((0, 1, 1, 0), (0, 1, 1, 0), (0, 1, 99, 99), (1, 0, 1, 0))))

    def test_each_road_counts(self):
        roads = tuple((at % 9, at % 9 + 1, 7, 7) for at in range(30))
        self.net((10, roads))
        for at in range(30):
            with self.subTest(at=at):
                self.no_net((10, with_part(roads, at, (3, 4, 0, 7))))

    def test_a_list_for_a_tuple_at_each_depth(self):
        self.no_net(list(NET))
        self.no_net((NET[0], list(NET[1])))
        for at, road in enumerate(NET[1]):
            self.no_net((NET[0], with_part(NET[1], at, list(road))))
        self.no_net((2, []))
        self.no_net([2, ()])

    def test_a_part_more_or_fewer_at_each_depth(self):
        self.no_net((*NET, ()))
        self.no_net((*NET, 0))
        self.no_net(NET[:1])
        self.no_net(NET[1:])
        self.no_net(())
        for at, road in enumerate(NET[1]):
            for other in ((*road, 0), (*road, None), road[:3], road[:2], road[:1], (), road[1:]):
                self.no_net((NET[0], with_part(NET[1], at, other)))

    def test_parts_the_other_way_round(self):
        self.no_net(NET[::-1])
        self.no_net((4, ((0, 1, 5, 5), (1, 2))))
        self.no_net((4, (0, 1, 5, 5)))

    def test_no_number_where_one_is_told(self):
        for odd in (True, False, None, "0", "1", "", [], [1], (), (1,), {}, {1: 1}):
            self.no_net((odd, ()))
            self.no_net((odd, NET[1]))
            for at in range(4):
                for road in ((2, 3, 1, 1), (3, 2, 1, 0), (0, 1, 1, 1), (1, 0, 1, 1)):
                    self.no_net(with_road(with_part(road, at, odd)))

    def test_a_thing_of_whatever_kind_at_each_place(self):
        for odd in odd_things():
            self.no_net(odd)
            self.no_net((odd, NET[1]))
            self.no_net((NET[0], odd))
            for at, road in enumerate(NET[1]):
                self.no_net((NET[0], with_part(NET[1], at, odd)))
                for part in range(4):
                    self.no_net((NET[0], with_part(NET[1], at, with_part(road, part, odd))))

    def test_numbers_alone(self):
        for number in range(-1, 101):
            self.no_net(number)


def ways_up_to(longest, numbers):
    """All tuples of these numbers of at most so many."""
    for many in range(longest + 1):
        yield from itertools.product(numbers, repeat=many)


def by_hand(net, place, way):
    """Told otherwise than the program does: the places where the roads begin, and those where they lead."""
    if any(not 0 <= number < len(net[1]) for number in way):
        return None
    roads = [net[1][number] for number in way]
    begins = [road[0] for road in roads]
    stops = [place] + [road[1] for road in roads]
    if begins != stops[:-1]:
        return None
    return stops, sum(road[2] for road in roads), sum(road[3] for road in roads)


class Ways(unittest.TestCase):
    def told(self, net, place, thing, due):
        before = shape((net, place, thing))
        told = way_of(net, place, thing)
        self.assertEqual(told, due, before[:200])
        if due is None:
            self.assertIs(told, None)
        else:
            self.assertIs(type(told), tuple)
            self.assertEqual([type(part) for part in told], [int, int, int])
        self.assertEqual(shape((net, place, thing)), before)

    def simple(self, net, place, thing, due):
        before = shape((net, place, thing))
        self.assertIs(is_simple(net, place, thing), due, before[:200])
        self.assertEqual(shape((net, place, thing)), before)

    def neither(self, net, place, thing):
        self.told(net, place, thing, None)
        self.simple(net, place, thing, False)

    def test_the_empty_way_from_each_place(self):
        for place in range(NET[0]):
            self.told(NET, place, (), (place, 0, 0))
            self.simple(NET, place, (), True)
        self.told((1, ()), 0, (), (0, 0, 0))
        self.simple((1, ()), 0, (), True)
        self.told((10, ()), 9, (), (9, 0, 0))

    def test_ways_of_one_road(self):
        for number, (one, other, cost, time) in enumerate(NET[1]):
            for place in range(NET[0]):
                if place == one:
                    self.told(NET, place, (number,), (other, cost, time))
                    self.simple(NET, place, (number,), True)
                else:
                    self.neither(NET, place, (number,))

    def test_ways_of_several_roads(self):
        self.told(NET, 0, (0, 1), (2, 8, 4))
        self.told(NET, 0, (3, 1, 4), (3, 8, 108))
        self.told(NET, 1, (1, 2), (0, 12, 1))
        for place, way in ((0, (0, 1)), (0, (3, 1, 4)), (1, (1, 2)), (1, (5,))):
            self.simple(NET, place, way, True)

    def test_through_a_place_more_than_once(self):
        self.told(NET, 0, (0, 5, 3), (1, 104, 15))
        self.told(NET, 0, (0, 5, 3, 1, 4), (3, 110, 114))
        self.told(NET, 1, (1, 2, 0, 1, 4), (3, 21, 104))
        for place, way in ((0, (0, 5, 3)), (0, (0, 5, 3, 1, 4)), (1, (1, 2, 0, 1, 4)), (2, (2, 0, 5, 3))):
            self.simple(NET, place, way, False)

    def test_round_and_back_to_where_it_begins(self):
        self.told(NET, 0, (0, 1, 2), (0, 15, 5))
        self.told(NET, 1, (5, 3), (1, 101, 11))
        self.told(NET, 2, (2, 3, 1), (2, 14, 10))
        for place, way in ((0, (0, 1, 2)), (1, (5, 3)), (2, (2, 3, 1))):
            self.simple(NET, place, way, False)

    def test_twice_at_a_place_other_than_the_ends(self):
        net = (4, ((0, 1, 1, 0), (1, 2, 1, 0), (2, 1, 1, 0), (1, 3, 1, 0)))
        self.told(net, 0, (0, 1, 2, 3), (3, 4, 0))
        self.simple(net, 0, (0, 1, 2, 3), False)
        self.simple(net, 0, (0, 3), True)

    def test_a_way_through_all_ten_places_is_simple(self):
        net = (10, tuple((at, (at + 1) % 10, at + 1, 99) for at in range(10)))
        for place in range(10):
            way = tuple((place + at) % 10 for at in range(9))
            self.simple(net, place, way, True)
            self.told(net, place, way, ((place + 9) % 10, 55 - net[1][(place + 9) % 10][2], 891))
            self.simple(net, place, (*way, (place + 9) % 10), False)
            self.told(net, place, (*way, (place + 9) % 10), (place, 55, 990))

    def test_thirty_roads(self):
        net = (2, ROUND * 15)
        for number in range(30):
            place, other, cost, time = net[1][number]
            self.told(net, place, (number,), (other, cost, time))
            self.neither(net, other, (number,))
        self.neither(net, 0, (30,))

    def test_long_ways(self):
        net = (2, ROUND)
        self.told(net, 0, (0, 1) * 2000, (0, 16000, 20000))
        self.told(net, 1, (1, 0) * 2000 + (1,), (0, 16005, 20006))
        self.simple(net, 0, (0, 1) * 2000, False)
        self.neither(net, 0, (0, 1) * 2000 + (1,))

    def test_all_short_tuples(self):
        for place in range(NET[0]):
            for way in ways_up_to(4, range(-1, 7)):
                due = by_hand(NET, place, way)
                if due is None:
                    self.neither(NET, place, way)
                else:
                    stops, cost, time = due
                    self.told(NET, place, way, (stops[-1], cost, time))
                    self.simple(NET, place, way, len(set(stops)) == len(stops))

    def test_a_way_that_begins_elsewhere(self):
        self.neither(NET, 1, (0, 1))
        self.neither(NET, 3, (4,))
        self.neither(NET, 4, (0,))

    def test_a_way_that_goes_astray_further_on(self):
        for way in ((0, 0), (0, 2), (0, 1, 0), (0, 1, 4, 4), (0, 1, 2, 1), (0, 4, 1)):
            self.neither(NET, 0, way)

    def test_a_number_of_no_road(self):
        for number in (-1, -6, -5, 6, 7, 30, 10 ** 29, -(10 ** 29)):
            self.neither(NET, 0, (number,))
            self.neither(NET, 0, (0, number))
            self.neither(NET, 0, (0, number, 2))
        for number in (-1, 0, 1):
            self.neither((2, ()), 0, (number,))

    def test_no_number_where_one_is_told(self):
        for odd in (True, False, None, "0", "", [], [0], (), (0,), {}, {0: 0}):
            for place in range(NET[0]):
                self.neither(NET, place, (odd,))
                self.neither(NET, place, (0, odd))
                self.neither(NET, place, (odd, 1))
                self.neither(NET, place, (0, odd, 2))

    def test_what_is_no_tuple(self):
        for thing in ([], [0], [0, 1], "", "0", None, False, True, 0, 1, {}, {0: 1}, 10 ** 29):
            for place in range(NET[0]):
                self.neither(NET, place, thing)

    def test_things_of_whatever_kind(self):
        for odd in odd_things():
            for place in range(NET[0]):
                self.neither(NET, place, odd)
        self.neither(NET, 0, NET)


class Refused(unittest.TestCase):
    def refused(self, kind, net, place, thing):
        for asked in (way_of, is_simple):
            before = shape((net, place, thing))
            with self.assertRaises(kind, msg=before[:200]) as caught:
                asked(net, place, thing)
            self.assertIs(type(caught.exception), kind)
            self.assertEqual(shape((net, place, thing)), before)

    def test_what_is_no_net_whatever_stands_behind_it(self):
        for odd in (*odd_things(), (), 5, list(NET), (11, ()), (2, (ROAD,) * 31), (2, ((0, 1, 0, 0),)), (True, ())):
            for place in (0, -1, 99, None, True, "0", (), []):
                for thing in ((), (0,), (-1,), [], None, "x"):
                    self.refused(NoNet, odd, place, thing)
            for other in odd_things():
                self.refused(NoNet, odd, other, other)

    def test_then_what_is_no_place_whatever_thing_stands_behind_it(self):
        for net in (NET, (1, ()), (10, ((9, 0, 1, 1),))):
            for odd in (*odd_things(), (), (0,), net[0], net[0] + 1, -net[0]):
                for thing in ((), (0,), (-1,), [], None, "x", True, 10 ** 29, {}):
                    self.refused(NoPlace, net, odd, thing)
                self.refused(NoPlace, net, odd, odd)

    def test_each_place_is_let(self):
        for places in range(1, 11):
            for place in range(places):
                self.assertEqual(way_of((places, ()), place, ()), (place, 0, 0))
                self.assertIs(is_simple((places, ()), place, ()), True)

    def test_the_same_is_told_ahead_and_behind_a_refusal(self):
        for place in (-1, 5, None):
            self.refused(NoPlace, NET, place, (0, 1))
            self.refused(NoNet, NET[1], place, (0, 1))
            self.assertEqual(way_of(NET, 0, (0, 1)), (2, 8, 4))
            self.assertIs(is_simple(NET, 0, (0, 1)), True)
            self.assertIs(is_net(NET), True)


class Asking(unittest.TestCase):
    def test_names_of_the_arguments(self):
        self.assertEqual(list(inspect.signature(is_net).parameters), ["thing"])
        self.assertEqual(list(inspect.signature(way_of).parameters), ["net", "place", "thing"])
        self.assertEqual(list(inspect.signature(is_simple).parameters), ["net", "place", "thing"])

    def test_by_names_in_another_order(self):
        self.assertIs(is_net(thing=NET), True)
        self.assertIs(is_net(thing=[]), False)
        for way in ((), (0, 1), (0, 1, 2), (1,), [], None):
            self.assertEqual(way_of(thing=way, place=0, net=NET), way_of(NET, 0, way))
            self.assertEqual(way_of(NET, thing=way, place=0), way_of(NET, 0, way))
            self.assertIs(is_simple(thing=way, net=NET, place=0), is_simple(NET, 0, way))
            self.assertIs(is_simple(NET, thing=way, place=0), is_simple(NET, 0, way))
        for asked in (way_of, is_simple):
            with self.assertRaises(NoNet):
                asked(thing=(), place=0, net=None)
            with self.assertRaises(NoPlace):
                asked(thing=(), place=9, net=NET)

    def test_asked_twice_the_same_is_told(self):
        for way in ((), (0, 1), (0, 1, 2), (1,), (-1,), [0]):
            for _ in range(2):
                self.assertIs(is_net(NET), True)
                self.assertEqual(way_of(NET, 0, way), way_of(NET, 0, way))
                self.assertIs(is_simple(NET, 0, way), is_simple(NET, 0, way))

    def test_nothing_hangs_on_what_was_handed_in_earlier(self):
        thing = [0, 1]
        self.assertIs(way_of(NET, 0, thing), None)
        thing.clear()
        self.assertIs(way_of(NET, 0, thing), None)
        roads = [ROAD]
        self.assertIs(is_net((2, roads)), False)
        roads.append(roads.pop())
        self.assertIs(is_net((2, tuple(roads))), True)
        self.assertEqual(way_of(copy.deepcopy(NET), 0, (0, 1)), (2, 8, 4))
        self.assertEqual(way_of((3, NET[1][:3]), 0, (0, 1)), (2, 8, 4))
        self.assertEqual(way_of((3, NET[1][1::-1]), 0, (1, 0)), (2, 8, 4))

    def test_what_was_told_may_be_handed_in_again(self):
        told = way_of(NET, 0, (0, 1))
        self.assertIs(is_net(told), False)
        self.assertEqual(way_of(NET, told[0], (4,)), (3, 1, 99))
        self.assertIs(way_of(NET, 0, told), None)


if __name__ == "__main__":
    unittest.main()
