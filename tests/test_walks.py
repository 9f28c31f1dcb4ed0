"""Points 20 and 21, and points 2, 3, 4 as they bear on walks."""

import copy
import unittest

from reckoning import all_walks, cost, rank, walk_counts
from samples import NET, Dice, made_net, made_nets, odd_things, parameters, ringed_net
from waysranked.errors import NoCost, NoMany, NoNet, NoNumber, NoPlace, NoWay
from waysranked.nets import way_of
from waysranked.walks import count_of, count_to, least_walks, number_of, walk_of

# Round and back: from 0 to 0 for 100.
ROUND = (2, ((0, 1, 50, 0), (1, 0, 50, 0)))
# Round for 100 as well, but from 0 to 1 for 1, so that a walk to 1 may cost 601.
LAME = (2, ((0, 1, 1, 0), (1, 0, 99, 0)))
# Fifteen roads each way, so that there are 15 ** 600 walks of cost 600.
CROWD = (2, ((0, 1, 1, 0), (1, 0, 1, 0)) * 15)
# Many ways of like costs from 0 to 3: roads 0 and 1 are alike, 2 and 3 cost what 4 costs alone; 5 leads back.
LIKE = (
    4,
    ((0, 1, 1, 0), (0, 1, 1, 0), (1, 2, 1, 0), (2, 3, 1, 0), (1, 3, 2, 0), (3, 0, 1, 0), (0, 3, 3, 0), (2, 3, 1, 0)),
)
TEN = ringed_net(77, 10, 30, 5)
# Goals that can't be come to.
APART = ((NET, 3, 0), (NET, 0, 4), (NET, 4, 0), ((2, ()), 0, 1), ((2, ((0, 1, 1, 0),)), 1, 0))


def small_nets():
    """Nets of few walks of low cost, of which many cost alike."""
    return [LIKE, (1, ()), (3, ()), NET] + [made_net(seed, 2 + seed % 4, 2 + seed % 6, 3) for seed in range(20)]


def pairs(net):
    return [(start, goal) for start in range(net[0]) for goal in range(net[0])]


class Counts(unittest.TestCase):
    def told(self, net, start, goal, paid, just, most):
        before = repr((net, start, goal, paid))
        for asked, due in ((count_of, just), (count_to, most)):
            told = asked(net, start, goal, paid)
            self.assertEqual(told, due, before)
            self.assertIs(type(told), int)
        self.assertEqual(repr((net, start, goal, paid)), before)

    def test_round_and_back(self):
        for paid, just, most in ((0, 1, 1), (1, 0, 1), (99, 0, 1), (100, 1, 2), (101, 0, 2), (599, 0, 6), (600, 1, 7)):
            self.told(ROUND, 0, 0, paid, just, most)
        for paid, just, most in ((0, 0, 0), (49, 0, 0), (50, 1, 1), (150, 1, 2), (550, 1, 6), (600, 0, 6)):
            self.told(ROUND, 0, 1, paid, just, most)

    def test_start_and_goal_one(self):
        for net in (NET, LIKE, TEN, (1, ()), (10, ())):
            for place in range(net[0]):
                self.told(net, place, place, 0, 1, 1)

    def test_start_and_goal_two(self):
        for net in (NET, LIKE, TEN, (10, ())):
            for start, goal in pairs(net):
                if start != goal:
                    self.told(net, start, goal, 0, 0, 0)

    def test_cost_one(self):
        self.told(LIKE, 0, 1, 1, 2, 2)
        self.told(LIKE, 2, 3, 1, 2, 2)
        self.told(LIKE, 0, 3, 1, 0, 0)
        self.told(LIKE, 0, 0, 1, 0, 1)
        self.told(CROWD, 0, 1, 1, 15, 15)

    def test_ways_of_like_costs_are_counted_apart(self):
        # Two roads to 1, and from there two by 2 and one straight, and one road for 3.
        self.told(LIKE, 0, 3, 3, 7, 7)
        self.told(LIKE, 0, 3, 7, 49, 56)

    def test_goals_that_cannot_be_come_to(self):
        for paid in (0, 1, 599, 600):
            for net, start, goal in APART:
                self.told(net, start, goal, paid, 0, 0)

    def test_walks_on_from_the_goal_and_back_are_counted(self):
        self.told(LAME, 0, 1, 1, 1, 1)
        self.told(LAME, 0, 1, 101, 1, 2)
        self.told(LAME, 0, 1, 501, 1, 6)
        self.told(LAME, 0, 1, 600, 0, 6)
        self.told(LAME, 0, 0, 600, 1, 7)

    def test_numbers_of_many_figures(self):
        self.told(CROWD, 0, 0, 600, 15 ** 600, sum(15 ** many for many in range(0, 601, 2)))
        self.told(CROWD, 0, 1, 600, 0, sum(15 ** many for many in range(1, 600, 2)))
        self.told(CROWD, 0, 1, 599, 15 ** 599, sum(15 ** many for many in range(1, 600, 2)))

    def test_against_all_walks(self):
        for net in small_nets():
            for start, goal in pairs(net):
                costs = [cost(net, walk) for walk in all_walks(net, start, goal, 9)]
                for paid in range(10):
                    self.told(net, start, goal, paid, costs.count(paid), sum(one <= paid for one in costs))

    def test_against_a_count(self):
        for net in made_nets():
            dice = Dice(len(net[1]))
            start, goal = dice.below(net[0]), dice.below(net[0])
            counts = walk_counts(net, start, goal, 600)
            for paid in (0, 1, 2, 50, 99, 100, 333, 599, 600):
                self.told(net, start, goal, paid, counts[paid], sum(counts[:paid + 1]))

    def test_each_cost_of_one_net(self):
        counts = walk_counts(TEN, 2, 6, 600)
        for paid in range(0, 601, 13):
            self.told(TEN, 2, 6, paid, counts[paid], sum(counts[:paid + 1]))


class Numbers(unittest.TestCase):
    def both(self, net, start, goal, number, walk):
        """The walk of the number is this one, and this one's number is that."""
        before = repr((net, start, goal, number, walk))
        self.walk(net, start, goal, number, walk)
        told = number_of(net, start, goal, walk)
        self.assertEqual(told, number, before[:300])
        self.assertIs(type(told), int)
        self.assertEqual(repr((net, start, goal, number, walk)), before)

    def walk(self, net, start, goal, number, due):
        told = walk_of(net, start, goal, number)
        self.assertEqual(told, due, (net, start, goal, number))
        if due is not None:
            self.assertIs(type(told), tuple)
            self.assertTrue(all(type(road) is int for road in told))

    def test_ways_of_like_costs_rise_as_tuples_compare(self):
        due = [(0, 2, 3), (0, 2, 7), (0, 4), (1, 2, 3), (1, 2, 7), (1, 4), (6,)]
        for number, walk in enumerate(due):
            self.both(LIKE, 0, 3, number, walk)
        self.both(LIKE, 0, 3, 7, (0, 2, 3, 5, 0, 2, 3))
        self.both(LIKE, 0, 3, 55, (6, 5, 6))

    def test_the_lesser_cost_goes_ahead_of_the_lesser_tuple(self):
        net = (2, ((0, 1, 9, 0), (0, 1, 8, 0), (1, 0, 1, 0)))
        for number, walk in enumerate([(1,), (0,), (1, 2, 1), (0, 2, 1), (1, 2, 0)]):
            self.both(net, 0, 1, number, walk)

    def test_start_and_goal_one(self):
        for net in (NET, LIKE, TEN, (1, ()), (10, ())):
            for place in range(net[0]):
                self.both(net, place, place, 0, ())
        self.walk((1, ()), 0, 0, 1, None)
        self.both(LIKE, 3, 3, 1, (5, 0, 2, 3))
        self.both(ROUND, 0, 0, 1, (0, 1))

    def test_goals_that_cannot_be_come_to(self):
        for net, start, goal in APART:
            for number in (0, 1, 10 ** 15):
                self.walk(net, start, goal, number, None)

    def test_no_more_of_cost_600_at_most(self):
        self.both(ROUND, 0, 0, 6, (0, 1) * 6)
        self.walk(ROUND, 0, 0, 7, None)
        self.both(ROUND, 0, 1, 5, (0, 1) * 5 + (0,))
        self.walk(ROUND, 0, 1, 6, None)
        # The next walk would cost 601.
        self.both(LAME, 0, 1, 5, (0, 1) * 5 + (0,))
        self.walk(LAME, 0, 1, 6, None)
        self.walk(LAME, 0, 1, 10 ** 15, None)

    def test_the_last_walk_of_cost_600_at_most(self):
        many = 0
        for seed in range(60):
            net = made_net(seed, 2 + seed % 9, 3 + seed % 17)
            start, goal = seed % net[0], seed // 3 % net[0]
            total = sum(walk_counts(net, start, goal, 600))
            if 0 < total <= 10 ** 15:
                many += 1
                self.walk(net, start, goal, total, None)
                last = walk_of(net, start, goal, total - 1)
                self.both(net, start, goal, total - 1, last)
                self.assertLessEqual(cost(net, last), 600)
        self.assertGreater(many, 25)

    def test_against_all_walks(self):
        for net in small_nets():
            for start, goal in pairs(net):
                for number, walk in enumerate(all_walks(net, start, goal, 9)[:60]):
                    self.both(net, start, goal, number, walk)

    def test_each_walk_is_the_number_s_and_they_rise(self):
        for net in (TEN, CROWD, LIKE, ringed_net(9, 10, 30, 9), ringed_net(10, 5, 30, 4)):
            dice = Dice(net[0])
            for start, goal in ((0, net[0] - 1), (1, 0), (0, 0)):
                numbers = sorted({10 ** 15, 10 ** 15 - 1, 0, 1, *[dice.below(10 ** power) for power in range(1, 15)]})
                walks = [walk_of(net, start, goal, number) for number in numbers]
                for number, walk in zip(numbers, walks):
                    self.assertIsNotNone(walk, (net, start, goal, number))
                    self.both(net, start, goal, number, walk)
                    self.assertEqual(way_of(net, start, walk)[0], goal)
                self.assertEqual(walks, sorted(walks, key=rank(net)))

    def test_ten_to_the_fifteenth(self):
        # Below 15 + 15 ** 3 and so on up to 15 ** 11 are all walks of up to 11 roads.
        left = 10 ** 15 - sum(15 ** many for many in range(1, 13, 2))
        figures = []
        for _ in range(13):
            figures.append(left % 15)
            left //= 15
        self.assertEqual(left, 0)
        due = tuple(2 * figure + at % 2 for at, figure in enumerate(reversed(figures)))
        self.both(CROWD, 0, 1, 10 ** 15, due)

    def test_numbers_of_many_figures(self):
        total = sum(15 ** many for many in range(0, 601, 2))
        self.assertEqual(number_of(CROWD, 0, 0, (28, 29) * 300), total - 1)
        self.assertEqual(number_of(CROWD, 0, 0, (28, 29) * 299 + (28, 27)), total - 2)
        self.assertEqual(number_of(CROWD, 0, 0, (0, 1) * 300), total - 15 ** 600)
        self.assertEqual(number_of(CROWD, 0, 0, (0, 1) * 299 + (2, 3)), total - 15 ** 600 + 16)
        self.assertEqual(number_of(TEN, 0, 0, ()), 0)

    def test_the_number_of_a_long_walk_of_a_net_of_ten_places(self):
        # The number of a walk of many roads, as those with a lesser road at some place are counted by the test.
        counts = {}
        for place in range(10):
            for paid, many in enumerate(walk_counts(TEN, place, 6, 600)):
                counts[place, paid] = many
        walk, place = [], 2
        dice = Dice(3)
        while cost(TEN, walk) < 500 or place != 6:
            roads = [road for road in range(30) if TEN[1][road][0] == place and counts[TEN[1][road][1], 50]]
            walk.append(roads[dice.below(len(roads))])
            place = TEN[1][walk[-1]][1]
        left = cost(TEN, walk)
        due, place = sum(counts[2, paid] for paid in range(left)), 2
        for road in walk:
            for lesser in range(road):
                one, other, paid, _ = TEN[1][lesser]
                if one == place:
                    due += counts.get((other, left - paid), 0)
            place = TEN[1][road][1]
            left -= TEN[1][road][2]
        self.assertEqual(left, 0)
        self.assertGreater(due, 10 ** 30)
        self.assertEqual(number_of(TEN, 2, 6, tuple(walk)), due)


class Least(unittest.TestCase):
    def told(self, net, start, goal, many, due):
        before = repr((net, start, goal, many))
        told = least_walks(net, start, goal, many)
        self.assertIs(type(told), list)
        self.assertEqual(told, due, before)
        self.assertTrue(all(type(walk) is tuple for walk in told))
        self.assertEqual(repr((net, start, goal, many)), before)

    def test_ordinary_ones(self):
        self.told(LIKE, 0, 3, 3, [(0, 2, 3), (0, 2, 7), (0, 4)])
        self.told(ROUND, 0, 0, 3, [(), (0, 1), (0, 1, 0, 1)])
        self.told(NET, 0, 3, 2, [(3, 1, 4), (0, 1, 4)])

    def test_none_one_and_forty(self):
        for net in small_nets():
            for start, goal in pairs(net):
                self.told(net, start, goal, 0, [])
        for start, goal in pairs(LIKE):
            due = all_walks(LIKE, start, goal, 13)
            self.assertGreater(len(due), 40)
            for many in (1, 2, 39, 40):
                self.told(LIKE, start, goal, many, due[:many])

    def test_fewer_where_there_are_no_more(self):
        for many in (6, 7, 8, 40):
            self.told(ROUND, 0, 0, many, [(0, 1) * times for times in range(min(many, 7))])
            self.told(LAME, 0, 1, many, [(0, 1) * times + (0,) for times in range(6)])
            self.told(NET, 3, 3, many, [()])
            self.told(NET, 0, 4, many, [])
            self.told((1, ()), 0, 0, many, [()])
        self.told(ROUND, 0, 0, 5, [(0, 1) * times for times in range(5)])

    def test_against_all_walks(self):
        for net in small_nets():
            for start, goal in pairs(net):
                due = all_walks(net, start, goal, 12)
                if len(due) >= 40:
                    self.told(net, start, goal, 40, due[:40])
                elif due:
                    self.told(net, start, goal, len(due), due)

    def test_they_are_the_walks_of_the_numbers(self):
        for net in (TEN, CROWD, ringed_net(9, 10, 30, 20)):
            for start, goal in ((0, net[0] - 1), (1, 0), (1, 1)):
                self.told(net, start, goal, 40, [walk_of(net, start, goal, number) for number in range(40)])

    def test_the_list_is_the_asker_s_own(self):
        for many in (0, 1, 40):
            first = least_walks(LIKE, 0, 3, many)
            kept = list(first)
            first.append("more")
            first.reverse()
            self.assertEqual(least_walks(LIKE, 0, 3, many), kept)
            self.assertIsNot(least_walks(LIKE, 0, 3, many), least_walks(LIKE, 0, 3, many))


BAD_COSTS = (-1, 601, 602, True, False, None, "", "0", "600", 10 ** 29, -(10 ** 29), (), (0,), [], [0], {})
BAD_NUMBERS = (-1, 10 ** 15 + 1, True, False, None, "", "0", 10 ** 29, -(10 ** 29), (), (0,), [], [0], {})
BAD_MANY = (-1, 41, 42, True, False, None, "", "3", 10 ** 29, -(10 ** 29), (), (3,), [], [3], {})
ASKED = (count_of, count_to, walk_of, number_of, least_walks)
# What stands last among the arguments, one that is let for each function, and others.
LASTS = (0, (), None, -1, True, "x", 10 ** 29, [])


def whatever():
    """Things of whatever kind that are no whole numbers from 0 to 10 ** 15."""
    return [odd for odd in odd_things() if type(odd) is not int or not 0 <= odd <= 10 ** 15]


class Refused(unittest.TestCase):
    def refused(self, kind, asked, *arguments):
        before = repr(arguments)
        with self.assertRaises(kind, msg=(asked, before[:300])) as caught:
            asked(*arguments)
        self.assertIs(type(caught.exception), kind)
        self.assertEqual(repr(arguments), before)

    def test_no_net_whatever_stands_behind_it(self):
        for odd in (*odd_things(), (), 5, list(NET), (11, ()), (True, ())):
            for asked in ASKED:
                for place in (0, -1, None, True, odd):
                    for last in LASTS:
                        self.refused(NoNet, asked, odd, place, place, last)

    def test_then_no_place_whatever_stands_behind_it(self):
        for net in (NET, (1, ()), (10, ())):
            for odd in (*odd_things(), (), (0,), net[0], net[0] + 1, -net[0]):
                for asked in ASKED:
                    for last in LASTS:
                        self.refused(NoPlace, asked, net, odd, 0, last)
                        self.refused(NoPlace, asked, net, 0, odd, last)
                        self.refused(NoPlace, asked, net, odd, odd, last)

    def test_no_cost(self):
        for asked in (count_of, count_to):
            for start, goal in ((0, 3), (0, 0), (3, 0)):
                for odd in (*BAD_COSTS, *whatever()):
                    self.refused(NoCost, asked, NET, start, goal, odd)

    def test_no_number(self):
        for start, goal in ((0, 3), (0, 0), (3, 0)):
            for odd in (*BAD_NUMBERS, *whatever()):
                self.refused(NoNumber, walk_of, NET, start, goal, odd)

    def test_no_many(self):
        for start, goal in ((0, 3), (0, 0), (3, 0)):
            for odd in (*BAD_MANY, *whatever(), 100):
                self.refused(NoMany, least_walks, NET, start, goal, odd)

    def test_no_way(self):
        # A walk to elsewhere, from elsewhere, none at all, and no ways.
        for odd in ((0,), (0, 1), (1, 4), (4,), (), (0, 0), (0, 1, 4, 4), (0, 1, 4, 2), (6,), (-1,), (-1, 1, 4),
                    [0, 1, 4], (0, True, 4), (False, 1, 4), (0, 1, 4, None), "014", None, 0, (0, 1, "4"),
                    ((0, 1, 4),), *odd_things()):
            self.refused(NoWay, number_of, NET, 0, 3, odd)
        for odd in ([], None, 0, False, "", {}, (0,), (True,), (0, 1), *odd_things()):
            self.refused(NoWay, number_of, NET, 0, 0, odd)
        for odd in ((), (0, 1, 4), *odd_things()):
            self.refused(NoWay, number_of, NET, 0, 4, odd)

    def test_no_way_goes_ahead_of_no_cost(self):
        self.refused(NoWay, number_of, ROUND, 0, 0, (0, 1) * 6 + (0,))
        self.refused(NoWay, number_of, ROUND, 0, 0, (0, 1) * 20 + (0,))
        self.refused(NoWay, number_of, ROUND, 0, 0, [0, 1] * 20)
        self.refused(NoWay, number_of, ROUND, 0, 0, (0, 1) * 20 + (True,))

    def test_no_cost_of_a_walk(self):
        self.assertEqual(number_of(ROUND, 0, 0, (0, 1) * 6), 6)
        self.refused(NoCost, number_of, ROUND, 0, 0, (0, 1) * 7)
        self.refused(NoCost, number_of, ROUND, 0, 0, (0, 1) * 2000)
        self.refused(NoCost, number_of, ROUND, 0, 1, (0, 1) * 6 + (0,))
        self.assertEqual(number_of(LAME, 0, 0, (0, 1) * 6), 6)
        self.refused(NoCost, number_of, LAME, 0, 1, (0, 1) * 6 + (0,))

    def test_what_is_just_let(self):
        for asked in (count_of, count_to):
            for paid in (0, 600):
                self.assertIs(type(asked(NET, 0, 3, paid)), int)
        for number in (0, 10 ** 15):
            self.assertIs(type(walk_of(CROWD, 0, 1, number)), tuple)
        for many in (0, 40):
            self.assertEqual(len(least_walks(CROWD, 0, 1, many)), many)


class Asking(unittest.TestCase):
    def test_names_of_the_arguments(self):
        for asked, last in zip(ASKED, ("cost", "cost", "number", "way", "many")):
            self.assertEqual(parameters(asked), (["net", "start", "goal", last], [], {}))

    def test_by_names_in_another_order(self):
        self.assertEqual(count_of(cost=3, goal=3, start=0, net=LIKE), 7)
        self.assertEqual(count_to(cost=7, goal=3, start=0, net=LIKE), 56)
        self.assertEqual(walk_of(number=3, goal=3, start=0, net=LIKE), (1, 2, 3))
        self.assertEqual(number_of(way=(1, 2, 3), goal=3, start=0, net=LIKE), 3)
        self.assertEqual(least_walks(many=1, goal=3, start=0, net=LIKE), [(0, 2, 3)])
        for asked, last in zip(ASKED, ("cost", "cost", "number", "way", "many")):
            with self.assertRaises(NoNet):
                asked(**{last: None}, goal=None, start=None, net=None)
            with self.assertRaises(NoPlace):
                asked(**{last: None}, goal=None, start=0, net=NET)

    def test_asked_twice_the_same_is_told(self):
        for asked, last in zip(ASKED, (7, 7, 5, (1, 4), 9)):
            first = asked(LIKE, 0, 3, last)
            with self.assertRaises(NoPlace):
                asked(LIKE, 0, 4, last)
            asked(ROUND, 0, 0, () if asked == number_of else last)
            self.assertEqual(asked(LIKE, 0, 3, last), first)
            self.assertEqual(asked(copy.deepcopy(LIKE), 0, 3, last), first)


if __name__ == "__main__":
    unittest.main()
