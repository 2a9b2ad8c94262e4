"""Broken wires and stuck switches: the worst lots, wires that part, idle wires."""

import unittest
from itertools import combinations, product

from alikeagain.delays import check_delay
from alikeagain.errors import BadNumber
from alikeagain.losses import idle_wires, is_lasting, parting_wires, stuck_delays, worst_lot, worst_paper

from tests import slow_plans
from tests.nets_samples import NET, OMEGA
from tests.plan_samples import ALL, CROSS, DOUBLING, GO, KEEP, PLAN, SMALL, STRAIGHT, TURN, dense_plans, params, some_plans
from tests.refusals import NO_NUMBERS, Refusals, each

MANY = [("many", 1, each(NO_NUMBERS + (-1, 3, 10 ** 999), BadNumber, "value"))]


def broken(net, lines):
    return [("broken", line, wire) for line, wire in product(lines, range(2 ** net[0]))]


def inner_lots(net, many):
    """All lots of at most so many broken inner wires, in their order."""
    wires = broken(net, range(1, len(net[1]) + 1))
    return [lot for less in range(many + 1) for lot in combinations(wires, less)]


def worst_of(net, plan, many):
    """The first worst lot and its delay, by all lots."""
    told = [(lot, slow_plans.delay(net, plan, lot)) for lot in inner_lots(net, many)]
    most = None if None in [late for _, late in told] else max(late for _, late in told)
    return next(pair for pair in told if pair[1] == most)


class TestLosses(Refusals, unittest.TestCase):
    def test_refusals(self):
        for function in (worst_lot, worst_paper, is_lasting):
            self.all_refusals(function, params("net", "plan") + MANY)
        for function in (parting_wires, idle_wires, stuck_delays):
            self.all_refusals(function, params("net", "plan"))

    def test_nets_without_inner_wires(self):
        plan = ((), (TURN,))
        for many in (0, 1, 2):
            self.assertEqual(worst_lot(SMALL, plan, many), ((), 1))
            self.assertTrue(is_lasting(SMALL, plan, many))
            self.assertEqual(worst_lot(SMALL, ((), (KEEP,)), many), ((), None))
            self.assertFalse(is_lasting(SMALL, ((), (KEEP,)), many))
            lot, paper = worst_paper(SMALL, plan, many)
            self.assertEqual(lot, ())
            self.assertEqual(check_delay(SMALL, plan, lot, paper), 1)
        self.assertEqual(parting_wires(SMALL, plan), tuple(broken(SMALL, (0, 1))))
        self.assertEqual(idle_wires(SMALL, plan), ())
        self.assertEqual(idle_wires(SMALL, ((), (GO,))), (("broken", 0, 1), ("broken", 1, 0)))
        self.assertEqual(stuck_delays(SMALL, plan), ((("stuck", 0, 0, 0), None), (("stuck", 0, 0, 1), 1)))

    def test_by_hand(self):
        # Straight: everyone hears himself, or a neighbour in number; whatever is broken, somebody is alone.
        plan = ((), ((CROSS, ALL), (STRAIGHT, ALL), (((1, 0), (0, 0)), ALL)))
        late = slow_plans.delay(NET, plan, ())
        self.assertEqual(worst_lot(NET, plan, 0), ((), late))
        self.assertEqual(worst_lot(NET, plan, 1), worst_of(NET, plan, 1))
        self.assertEqual(parting_wires(NET, plan)[:4], tuple(broken(NET, (0,))))

    def test_by_all_lots(self):
        told = {}
        for net, plan in [item[:2] for item in some_plans(171, 10, (1, 2, 2))] + dense_plans(173, 40):
            for many in (0, 1, 2):
                expected = worst_of(net, plan, many)
                self.assertEqual(worst_lot(net, plan, many), expected)
                self.assertIs(is_lasting(net, plan, many), expected[1] is not None)
                lot, paper = worst_paper(net, plan, many)
                self.assertEqual(lot, expected[0])
                self.assertEqual(check_delay(net, plan, lot, paper), expected[1])
                self.assertEqual(slow_plans.paper_on_delay(net, plan, lot, paper), (expected[1],))
                told[len(lot), expected[1] is None] = True
        self.assertGreaterEqual(len(told), 5)

    def test_pairs_that_are_worse_than_one(self):
        found = 0
        six = (CROSS, STRAIGHT, ((1, 0), (0, 1)), ((0, 1), (1, 1)), ((1, 1), (0, 0)), ((0, 0), (1, 1)))
        for net in (DOUBLING, (2, ((0, 2, 1, 3), (2, 0, 3, 1)))):
            rounds = tuple(((*settings, settings[0]), ALL) for settings in six)
            for plan in (((), rounds), (rounds[:2], rounds[1:]), ((), rounds[::-1]), ((), rounds[:4])):
                for many in (1, 2):
                    self.assertEqual(worst_lot(net, plan, many), worst_of(net, plan, many))
                found += is_lasting(net, plan, 1)
        self.assertGreater(found, 0)

    def test_each_wire_and_each_switch(self):
        told = {}
        for net, plan in [item[:2] for item in some_plans(172, 20)] + dense_plans(174, 20, (1, 2, 2, 3)):
            wires = broken(net, range(len(net[1]) + 2))
            parting = tuple(wire for wire in wires if slow_plans.delay(net, plan, (wire,)) is None)
            self.assertEqual(parting_wires(net, plan), parting)
            sound = [slow_plans.hears_at(net, plan, (), at) for at in slow_plans.moments(plan)]
            idle = tuple(wire for wire in wires
                         if [slow_plans.hears_at(net, plan, (wire,), at) for at in slow_plans.moments(plan)] == sound)
            self.assertEqual(idle_wires(net, plan), idle)
            stuck = product(range(len(net[1]) + 1), range(2 ** net[0] // 2), (0, 1))
            expected = tuple((("stuck", *place), slow_plans.delay(net, plan, (("stuck", *place),))) for place in stuck)
            self.assertEqual(stuck_delays(net, plan), expected)
            told[len(parting) < len(wires), bool(idle)] = True
        self.assertGreaterEqual(len(told), 3)

    def test_eight_stations(self):
        settings = ((0, 0, 0, 0), (1, 1, 1, 1), (0, 1, 0, 1))
        rounds = tuple((settings[at:] + settings[:at], tuple(range(8))) for at in range(3))
        lot, late = worst_lot(OMEGA, ((), rounds), 2)
        self.assertEqual(late, slow_plans.delay(OMEGA, ((), rounds), lot))
        self.assertEqual(worst_lot(OMEGA, ((), rounds), 1), worst_of(OMEGA, ((), rounds), 1))
        paper = worst_paper(OMEGA, (rounds, rounds), 2)
        self.assertEqual(check_delay(OMEGA, (rounds, rounds), paper[0], paper[1]), late)


if __name__ == "__main__":
    unittest.main()
