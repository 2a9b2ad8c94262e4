"""Menus of rounds: lots that do, shortest and soonest rows, needless rounds."""

import unittest
from itertools import combinations, permutations
from random import Random

from alikeagain.errors import BadRound
from alikeagain.menus import all_hear, hears_of_menu, least_lots, needless_rounds, shortest_ring, soonest_ring

from tests import slow, slow_plans
from tests.nets_samples import NET, NETS, ROUND, WRONG_NETS, WRONG_ROUNDS, random_net
from tests.plan_samples import COME, GO, KEEP, NOBODY, PLAN, SMALL, TURN, params, random_round, some_plans
from tests.refusals import NO_TUPLES, Refusals, at_place

ROUNDS = tuple(value for value, _, _ in WRONG_ROUNDS)
MENU = (ROUND, *PLAN[1])
WRONG_MENUS = (
    at_place(NO_TUPLES + ((), (ROUND,) * 6, [ROUND]), BadRound, None)
    + at_place([(value,) for value in ROUNDS], BadRound, 0)
    + at_place([(value, None) for value in ROUNDS[:5]], BadRound, 0)
    + at_place([(ROUND, ROUND, ROUND, ROUND, value) for value in ROUNDS[::9]], BadRound, 4)
    + at_place([(ROUND, TURN, ROUND)], BadRound, 1)
)
BY_MENU = [("net", NET, WRONG_NETS[::3]), ("menu", MENU, WRONG_MENUS)]


def some_menus(seed, many, bits=(1, 2, 2, 3)):
    """Pairs of a net and a menu of one to five rounds."""
    random = Random(seed)
    found = []
    for _ in range(many):
        net = random_net(random, random.choice(bits))
        found.append((net, tuple(random_round(random, net) for _ in range(random.randint(1, 5)))))
    return found


def all_rows(menu):
    """All rows of a menu, the shorter ones first."""
    return [row for many in range(1, len(menu) + 1) for row in permutations(range(len(menu)), many)]


def delay_of(net, menu, row):
    return slow_plans.delay(net, ((), tuple(menu[number] for number in row)), ())


class TestMenus(Refusals, unittest.TestCase):
    def test_refusals(self):
        for function in (hears_of_menu, all_hear, least_lots, shortest_ring, soonest_ring):
            self.all_refusals(function, BY_MENU)
        self.all_refusals(needless_rounds, params("net", "plan"))

    def test_by_hand(self):
        menu = (NOBODY, GO, COME, TURN)
        self.assertEqual(hears_of_menu(SMALL, menu), ((None, None), (None, 0), (1, None), (1, 0)))
        self.assertTrue(all_hear(SMALL, menu))
        self.assertFalse(all_hear(SMALL, menu[:2]))
        self.assertEqual(least_lots(SMALL, menu), ((1, 2), (3,)))
        self.assertEqual(shortest_ring(SMALL, menu), (3,))
        self.assertEqual(soonest_ring(SMALL, menu), (1, (3,)))
        self.assertEqual(least_lots(SMALL, menu[:3]), ((1, 2),))
        self.assertEqual(shortest_ring(SMALL, menu[:3]), (1, 2))
        self.assertEqual(soonest_ring(SMALL, menu[:3]), (2, (1, 2)))
        self.assertEqual(least_lots(SMALL, menu[:2]), ())
        self.assertIsNone(shortest_ring(SMALL, menu[:2]))
        self.assertIsNone(soonest_ring(SMALL, menu[:2]))

    def test_menus_of_one_round_and_of_five(self):
        self.assertEqual(least_lots(SMALL, (TURN,)), ((0,),))
        self.assertEqual(soonest_ring(SMALL, (TURN,)), (1, (0,)))
        self.assertEqual(least_lots(SMALL, (KEEP,)), ())
        five = (TURN, GO, TURN, COME, TURN)
        self.assertEqual(least_lots(SMALL, five), ((0,), (1, 3), (2,), (4,)))
        self.assertEqual(shortest_ring(SMALL, five), (0,))
        self.assertEqual(soonest_ring(SMALL, five[1:2] + five[3:4]), (2, (0, 1)))
        self.assertEqual(hears_of_menu(SMALL, five), ((1, 0), (None, 0), (1, 0), (1, None), (1, 0)))

    def test_by_all_lots(self):
        told = {}
        for net, menu in some_menus(161, 60):
            rows = tuple(slow.hears(net, one_round, ()) for one_round in menu)
            self.assertEqual(hears_of_menu(net, menu), rows)
            lots = [lot for many in range(1, len(menu) + 1) for lot in combinations(range(len(menu)), many)
                    if delay_of(net, menu, lot) is not None]
            self.assertIs(all_hear(net, menu), tuple(range(len(menu))) in lots)
            least = tuple(sorted(lot for lot in lots if not any(set(other) < set(lot) for other in lots)))
            self.assertEqual(least_lots(net, menu), least)
            told[len(menu), bool(least)] = True
        self.assertGreaterEqual(len(told), 8)

    def test_by_all_rows(self):
        told = {}
        for net, menu in some_menus(162, 24) + some_menus(163, 10, (2,)):
            delays = {row: delay_of(net, menu, row) for row in all_rows(menu)}
            good = [row for row in delays if delays[row] is not None]
            if not good:
                self.assertIsNone(shortest_ring(net, menu))
                self.assertIsNone(soonest_ring(net, menu))
                continue
            shortest = min(map(len, good))
            self.assertEqual(shortest_ring(net, menu), min(row for row in good if len(row) == shortest))
            least = min(delays[row] for row in good)
            soonest = min((row for row in good if delays[row] == least), key=lambda row: (len(row), row))
            self.assertEqual(soonest_ring(net, menu), (least, soonest))
            told[len(soonest) > shortest] = True
        self.assertEqual(len(told), 2)

    def test_a_longer_row_that_is_sooner(self):
        found = 0
        for net, menu in some_menus(164, 150, (2,)):
            told = soonest_ring(net, menu)
            if told is not None:
                self.assertEqual(delay_of(net, menu, told[1]), told[0])
                if len(told[1]) > len(shortest_ring(net, menu)):
                    self.assertLess(told[0], delay_of(net, menu, shortest_ring(net, menu)))
                    found += 1
        self.assertGreater(found, 3)


class TestNeedless(unittest.TestCase):
    def test_by_hand(self):
        self.assertEqual(needless_rounds(SMALL, ((), (TURN,))), ())
        self.assertEqual(needless_rounds(SMALL, ((), (KEEP,))), (0,))
        self.assertEqual(needless_rounds(SMALL, ((), (GO, COME, NOBODY, KEEP))), (2, 3))
        # Each one of two alike rounds can be done without, but it takes longer then.
        self.assertEqual(needless_rounds(SMALL, ((), (TURN, TURN))), ())
        self.assertEqual(needless_rounds(SMALL, ((), (GO, NOBODY, GO, COME))), (0, 1, 2))
        self.assertEqual(needless_rounds(SMALL, ((TURN,), (GO, NOBODY, GO))), (0, 1, 2))

    def test_by_all_rounds(self):
        told = {}
        for net, plan, _ in some_plans(165, 60):
            whole = slow_plans.delay(net, plan, ())
            expected = []
            for number, (settings, _) in enumerate(plan[1]):
                ring = plan[1][:number] + ((settings, ()),) + plan[1][number + 1:]
                if slow_plans.delay(net, (plan[0], ring), ()) == whole:
                    expected.append(number)
            self.assertEqual(needless_rounds(net, plan), tuple(expected))
            told[whole is None, bool(expected)] = True
        self.assertEqual(len(told), 3)

    def test_all_nets(self):
        for net in NETS:
            settings = tuple((0,) * 2 ** (net[0] - 1) for _ in range(len(net[1]) + 1))
            self.assertEqual(needless_rounds(net, ((), ((settings, ()),) * 6)), tuple(range(6)))


if __name__ == "__main__":
    unittest.main()
