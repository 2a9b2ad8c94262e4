"""Plans, their moments, and whom each station hears at these."""

import unittest

from alikeagain.plans import hears_at, need_plan, next_moment, turned_ring

from tests import slow_plans
from tests.nets_samples import NET, NETS
from tests.plan_samples import ALL, CROSS, GO, PLAN, SMALL, TURN, params, some_plans
from tests.refusals import Refusals


class TestPlans(Refusals, unittest.TestCase):
    def test_refusals(self):
        self.all_refusals(need_plan, params("net", "plan"))
        self.all_refusals(next_moment, params("net", "plan", "moment"))
        self.all_refusals(hears_at, params("net", "plan", "faults", "moment"))
        self.all_refusals(turned_ring, params("net", "plan", "many", many="turn"))

    def test_the_plan_itself_is_told(self):
        for net, plan, _ in some_plans(131, 30):
            self.assertIs(need_plan(net, plan), plan)
        for net in NETS:
            one_round = (tuple((0,) * 2 ** (net[0] - 1) for _ in range(len(net[1]) + 1)), ())
            for plan in (((), (one_round,)), ((one_round,) * 6, (one_round,) * 6), ((one_round,), (one_round,))):
                self.assertIs(need_plan(net, plan), plan)

    def test_moments_by_hand(self):
        self.assertEqual([next_moment(NET, PLAN, moment) for moment in range(4)], [1, 2, 3, 1])
        self.assertEqual([next_moment(SMALL, ((), (TURN,)), 0)], [0])
        self.assertEqual([next_moment(SMALL, ((TURN,) * 6, (GO,)), moment) for moment in range(7)], [1, 2, 3, 4, 5, 6, 6])
        great = ((TURN,) * 6, (GO,) * 6)
        self.assertEqual([next_moment(SMALL, great, moment) for moment in range(12)], [*range(1, 12), 6])

    def test_hearing_by_hand(self):
        self.assertEqual(hears_at(NET, PLAN, (), 0), (None,) * 4)
        self.assertEqual(hears_at(NET, PLAN, (), 3), (3, 1, 2, 0))
        self.assertEqual(hears_at(NET, PLAN, (("stuck", 0, 0, 0),), 3), (3, 0, 2, 1))
        self.assertEqual(hears_at(SMALL, ((TURN,), (GO,)), (), 0), (1, 0))
        self.assertEqual(hears_at(SMALL, ((TURN,), (GO,)), (), 1), (None, 0))
        self.assertEqual(hears_at(SMALL, ((TURN,), (GO,)), (("broken", 0, 0),), 1), (None, None))

    def test_hearing_by_all_tracks(self):
        for net, plan, faults in some_plans(132, 60):
            for moment in slow_plans.moments(plan):
                self.assertEqual(hears_at(net, plan, faults, moment), slow_plans.hears_at(net, plan, faults, moment))
                self.assertEqual(next_moment(net, plan, moment), slow_plans.next_moment(plan, moment))

    def test_rings_begun_later(self):
        first, second, third = PLAN[1]
        self.assertEqual(turned_ring(NET, PLAN, 0), ((), (first, second, third)))
        self.assertEqual(turned_ring(NET, PLAN, 1), ((), (second, third, first)))
        self.assertEqual(turned_ring(NET, PLAN, 2), ((), (third, first, second)))
        for many in (0, 3, 6):
            self.assertEqual(turned_ring(NET, PLAN, many), ((), PLAN[1]))
        self.assertEqual(turned_ring(NET, PLAN, 5), turned_ring(NET, PLAN, 2))
        self.assertEqual(turned_ring(SMALL, ((GO,), (TURN,)), 5), ((), (TURN,)))
        six = (TURN, GO, TURN, GO, GO, TURN)
        self.assertEqual(turned_ring(SMALL, ((), six), 4), ((), (GO, TURN, TURN, GO, TURN, GO)))
        self.assertEqual(turned_ring(SMALL, ((), six), 6), ((), six))
        one = (CROSS, ALL)
        self.assertEqual(turned_ring(NET, ((), (one,)), 1), ((), (one,)))


if __name__ == "__main__":
    unittest.main()
