"""Of whom stations have news, how soon, by which ways."""

import unittest
from itertools import product

from alikeagain.errors import BadNumber, BadStation
from alikeagain.news import first_news, is_way, news, way_of
from alikeagain.plans import next_moment

from tests import slow, slow_plans
from tests.nets_samples import NET
from tests.plan_samples import COME, GO, KEEP, NOBODY, PLAN, SMALL, TURN, longest, params, some_plans
from tests.refusals import NO_NUMBERS, NO_TUPLES, Refusals, otherwise

BEGUN = ("net", "plan", "faults", "moment")


class TestNews(Refusals, unittest.TestCase):
    def test_refusals(self):
        self.all_refusals(news, params(*BEGUN, "many"))
        self.all_refusals(first_news, params(*BEGUN))
        self.all_refusals(way_of, params(*BEGUN, "one", "other"))
        self.all_refusals(is_way, params(*BEGUN) + [("way", (0,), [])])
        self.refused(news, (NET, PLAN, (), 4, -1), BadNumber, value=4)
        self.refused(way_of, (NET, PLAN, (), 0, 5, -1), BadStation, value=5)

    def test_by_hand(self):
        plan = ((NOBODY, GO), (COME, TURN))
        self.assertEqual(news(SMALL, plan, (), 0, 0), ((0,), (1,)))
        self.assertEqual(news(SMALL, plan, (), 0, 1), ((0,), (1,)))
        self.assertEqual(news(SMALL, plan, (), 0, 2), ((0,), (0, 1)))
        self.assertEqual(news(SMALL, plan, (), 0, 3), ((0, 1), (0, 1)))
        self.assertEqual(news(SMALL, plan, (), 2, 1), ((0, 1), (1,)))
        self.assertEqual(news(SMALL, plan, (), 0, 100), ((0, 1), (0, 1)))
        self.assertEqual(news(SMALL, ((), (KEEP,)), (), 0, 100), ((0,), (1,)))
        self.assertEqual(first_news(SMALL, plan, (), 0), ((0, 2), (3, 0)))
        self.assertEqual(first_news(SMALL, plan, (), 2), ((0, 2), (1, 0)))
        self.assertEqual(first_news(SMALL, plan, (("broken", 0, 0),), 2), ((0, None), (1, 0)))
        self.assertEqual(first_news(SMALL, plan, (("broken", 1, 0), ("broken", 1, 1)), 2), ((0, None), (None, 0)))
        self.assertEqual(way_of(SMALL, plan, (), 0, 0, 1), (0, 0, 1))
        self.assertEqual(way_of(SMALL, plan, (), 0, 1, 0), (1, 1, 1, 0))
        self.assertEqual(way_of(SMALL, plan, (), 0, 1, 1), (1,))
        self.assertIsNone(way_of(SMALL, plan, (("broken", 0, 0),), 0, 0, 1))
        # One that hears only ahead has no news of it later.
        self.assertEqual(first_news(SMALL, ((TURN,), (GO,)), (), 0), ((0, 1), (1, 0)))
        self.assertEqual(first_news(SMALL, ((TURN,), (GO,)), (), 1), ((0, 1), (None, 0)))

    def test_news_by_all_rounds(self):
        for net, plan, faults in some_plans(141, 60):
            for moment in slow_plans.moments(plan):
                rows = slow_plans.knowing(net, plan, faults, moment, 100)
                for many in (0, 1, 2, 3, 7, 100):
                    expected = tuple(tuple(sorted(known)) for known in rows[many])
                    self.assertEqual(news(net, plan, faults, moment, many), expected)
                self.assertEqual(first_news(net, plan, faults, moment), slow_plans.first_news(net, plan, faults, moment))

    def test_news_that_takes_longest(self):
        for bits in (1, 2, 3):
            net, plan = longest(bits)
            many = 2 ** bits
            firsts = first_news(net, plan, (), 0)
            self.assertEqual(firsts, slow_plans.first_news(net, plan, (), 0))
            self.assertEqual(max(number for row in firsts for number in row), 6 + 6 * (many - 1))
            self.assertEqual(news(net, plan, (), 0, 11), tuple((station,) for station in range(many)))
            self.assertEqual(way_of(net, plan, (), 0, 1, 0)[-7:], (many - 1,) * 6 + (0,))
            self.assertEqual(len(way_of(net, plan, (), 0, 1, 0)), 7 + 6 * (many - 1))
            for ahead, ring in ((0, 5), (6, 1), (1, 6)):
                net, plan = longest(bits, ahead, ring)
                self.assertEqual(first_news(net, plan, (), 0)[1][0], ahead + ring * (many - 1))

    def test_ways_by_all_ways(self):
        missing = 0
        for net, plan, faults in some_plans(142, 60, (1, 2)):
            for moment in slow_plans.moments(plan):
                firsts = first_news(net, plan, faults, moment)
                ways = {many: slow_plans.all_ways(net, plan, faults, moment, many) for many in range(1, 6)}
                for one, other in product(slow.stations(net), repeat=2):
                    way = way_of(net, plan, faults, moment, one, other)
                    many = firsts[one][other]
                    if many is None:
                        missing += 1
                        self.assertIsNone(way)
                        continue
                    self.assertEqual(len(way), many + 1)
                    self.assertTrue(is_way(net, plan, faults, moment, way))
                    if many < 5:
                        fits = [row for row in ways[many + 1] if row[0] == one and row[-1] == other]
                        self.assertEqual(way, min(fits))
        self.assertGreater(missing, 20)

    def test_first_ways_of_eight_stations(self):
        told = {}
        for net, plan, faults in some_plans(143, 20, (3,)):
            for one, other in product(slow.stations(net), repeat=2):
                way = way_of(net, plan, faults, 0, one, other)
                expected = least_way(net, plan, faults, one, other)
                self.assertEqual(way, expected)
                told[len(way or ())] = True
        self.assertGreaterEqual(len(told), 5)

    def test_which_values_are_ways(self):
        for net, plan, faults in some_plans(144, 12, (1, 2)):
            for moment in slow_plans.moments(plan):
                for many in (1, 2, 3):
                    ways = slow_plans.all_ways(net, plan, faults, moment, many)
                    for row in product(slow.stations(net), repeat=many):
                        self.assertIs(is_way(net, plan, faults, moment, row), row in ways)

    def test_other_values_are_no_ways(self):
        way = (0, 0, 1)
        plan = ((NOBODY, GO), (COME, TURN))
        self.assertTrue(is_way(SMALL, plan, (), 0, way))
        for value in NO_TUPLES + ((), (2,), (-1,), (10 ** 999,), (0, 0, 2), [0, 0, 1], (0, 1, 1)):
            self.assertFalse(is_way(SMALL, plan, (), 0, value))
        for value in NO_NUMBERS:
            self.assertFalse(is_way(SMALL, plan, (), 0, (value,)))
            self.assertFalse(is_way(SMALL, plan, (), 0, (0, value, 1)))
        for value in otherwise(way):
            fits = isinstance(value, tuple) and all(type(item) is int and item in (0, 1) for item in value)
            fits = fits and value in slow_plans.all_ways(SMALL, plan, (), 0, len(value)) and value != ()
            self.assertIs(is_way(SMALL, plan, (), 0, value), fits)

    def test_ways_of_one_station_and_of_101(self):
        plan = ((NOBODY, GO), (COME, TURN))
        self.assertTrue(is_way(SMALL, plan, (), 1, (1,)))
        self.assertTrue(is_way(SMALL, plan, (), 1, (1,) * 101))
        self.assertFalse(is_way(SMALL, plan, (), 1, (1,) * 102))
        turning = (0,) * 99 + (1, 0)
        moment = 0
        for _ in range(98):
            moment = next_moment(SMALL, plan, moment)
        self.assertEqual(moment, 2)
        self.assertFalse(is_way(SMALL, plan, (), 0, turning))
        turning = (1,) * 99 + (0, 1)
        self.assertTrue(is_way(SMALL, plan, (), 0, turning))
        self.assertFalse(is_way(SMALL, plan, (), 0, (1,) + turning))


def least_way(net, plan, faults, one, other):
    """The first of the shortest ways, found station by station from behind."""
    firsts = slow_plans.first_news(net, plan, faults, 0)
    many = firsts[one][other]
    if many is None:
        return None
    good = [{other}]
    for number in reversed(range(many)):
        heard = slow_plans.hears_at(net, plan, faults, slow_plans.later(plan, 0, number))
        ahead = set(good[0])
        ahead |= {heard[station] for station in good[0] if heard[station] is not None}
        good.insert(0, ahead)
    way = [one]
    for number in range(many):
        heard = slow_plans.hears_at(net, plan, faults, slow_plans.later(plan, 0, number))
        later = [station for station in good[number + 1] if station == way[-1] or heard[station] == way[-1]]
        way.append(min(later))
    return tuple(way)


if __name__ == "__main__":
    unittest.main()
