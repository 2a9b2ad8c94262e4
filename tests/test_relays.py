"""Relays: their parts, states that may be missed, steps."""

import unittest
from random import Random

from alikeagain.errors import BadBook, BadNumber, BadRelay, BadStand, BadStation
from alikeagain.kinds import coming
from alikeagain.relays import laters, missable, need_relay, stand_after, step

from tests import slow_plans, slow_relays
from tests.kind_samples import HALF, KIND, SINGLE, flags, greatest
from tests.nets_samples import NET
from tests.plan_samples import COME, GO, KEEP, PLAN, SMALL, TURN
from tests.refusals import Refusals
from tests.relay_samples import BOOK, CLEAR, MIXED, RELAY, STAND, params, some_relays

SPOT = ("relay", "faults", "moment", "stand")


class TestRelays(Refusals, unittest.TestCase):
    def test_refusals(self):
        for function in (need_relay, missable):
            self.all_refusals(function, params("relay"))
        self.all_refusals(step, params(*SPOT, "unread"))
        self.all_refusals(laters, params(*SPOT))
        self.all_refusals(stand_after, params(*SPOT, "many", many="after"))

    def test_parts_in_their_order(self):
        self.refused(need_relay, ((NET, KIND, BOOK[:2], 0, 9, ()),), BadBook, place=None)
        self.refused(need_relay, ((NET, KIND, BOOK, 0, 9, ()),), BadNumber, value=0)
        self.refused(need_relay, ((NET, KIND, BOOK, 1, 9, ()),), BadNumber, value=9)
        self.refused(need_relay, (None,), BadRelay, part="form")
        self.refused(step, (RELAY, (), 4, (), ()), BadNumber, value=4)
        self.refused(step, (RELAY, (), 0, (), None), BadStand, value=())

    def test_the_relay_itself_is_told(self):
        for relay, _ in some_relays(181, 30):
            self.assertIs(need_relay(relay), relay)
        # Of eight states four come, and so many texts there are.
        self.assertEqual(coming(HALF), (0, 2, 4, 6))
        relay = (NET, HALF, CLEAR[:4], 2, 1, PLAN)
        self.assertIs(need_relay(relay), relay)
        self.refused(need_relay, ((NET, HALF, CLEAR, 2, 1, PLAN),), BadBook, place=None)

    def test_missable_by_hand(self):
        self.assertEqual(missable(RELAY), (0, 1))
        self.assertEqual(missable((NET, KIND, BOOK, 2, 0, PLAN)), ())
        self.assertEqual(missable((NET, KIND, BOOK, 1, 4, PLAN)), ())
        self.assertEqual(missable((NET, KIND, ("cd", "ab", "abab"), 2, 1, PLAN)), (1, 2))
        self.assertEqual(missable((NET, SINGLE, ("ab",), 2, 4, PLAN)), ())
        self.assertEqual(missable((NET, greatest(8), MIXED, 2, 2, PLAN)), tuple(range(8)))
        self.assertEqual(missable((NET, greatest(8), CLEAR, 2, 4, PLAN)), ())
        # The state with the number 1 of those that come is 2.
        self.assertEqual(missable((NET, HALF, ("ef", "ab", "cd", "abab"), 2, 1, PLAN)), (2, 6))

    def test_steps_by_hand(self):
        relay = (SMALL, greatest(3), ("ab", "abab", "cd"), 2, 1, ((GO,), (TURN, KEEP)))
        self.assertEqual(step(relay, (), 0, (1, 0), ()), (1, 1))
        self.assertEqual(step(relay, (), 0, (1, 0), (0,)), (1, 0))
        self.refused(step, (relay, (), 0, (2, 0), (0,)), BadStation, value=(0,))
        self.refused(step, (relay, (), 0, (1, 1), (1,)), BadStation, value=(1,))
        self.assertEqual(step(relay, (), 1, (1, 2), ()), (2, 2))
        self.assertEqual(step(relay, (), 1, (1, 2), (0,)), (2, 2))
        self.assertEqual(step(relay, (), 1, (1, 0), (0, 1)), (1, 0))
        self.assertEqual(laters(relay, (), 1, (1, 0)), ((1, 0), (1, 1)))
        self.assertEqual(laters(relay, (), 1, (2, 0)), ((2, 2),))
        self.assertEqual(laters(relay, (), 2, (2, 0)), ((2, 0),))
        # Nobody hears 0 when its wire is broken, so it cannot be unread.
        self.refused(step, (relay, (("broken", 0, 0),), 0, (1, 0), (0,)), BadStation, value=(0,))
        self.assertEqual(step(relay, (("broken", 0, 0),), 0, (1, 0), ()), (1, 0))

    def test_all_at_once_and_to_itself(self):
        turn = (0, ((1, 1, 2),), ((1, 2, 0), (2, 0, 1), (0, 1, 2)), (0, 1, 2))
        relay = (SMALL, turn, CLEAR[:3], 2, 1, ((), (TURN, KEEP)))
        # Each one adds what the other one had, and one more.
        self.assertEqual(step(relay, (), 0, (1, 2), ()), (1, 1))
        self.assertEqual(step(relay, (), 1, (1, 2), ()), (0, 2))
        self.assertEqual(stand_after(relay, (), 0, (1, 2), 2), (0, 0))
        self.assertEqual(stand_after(relay, (), 0, (1, 2), 0), (1, 2))

    def test_by_all_choices(self):
        told = {}
        random = Random(182)
        for relay, faults in some_relays(183, 80):
            self.assertEqual(missable(relay), slow_relays.missable(relay))
            for stand in random.sample(slow_relays.stands(relay), min(6, len(slow_relays.stands(relay)))):
                for moment in slow_plans.moments(relay[5]):
                    lots = slow_relays.unread_lots(relay, faults, moment, stand)
                    for lot in lots:
                        expected = slow_relays.step(relay, faults, moment, stand, lot)
                        self.assertEqual(step(relay, faults, moment, stand, lot), expected)
                    for station in range(len(stand)):
                        if (station,) not in lots:
                            self.refused(step, (relay, faults, moment, stand, (station,)), BadStation, value=(station,))
                    found = slow_relays.laters(relay, faults, moment, stand)
                    self.assertEqual(laters(relay, faults, moment, stand), found)
                    told[min(len(lots), 8), min(len(found), 4)] = True
        self.assertGreaterEqual(len(told), 6)

    def test_many_steps(self):
        random = Random(184)
        for relay, faults in some_relays(185, 40):
            stand = random.choice(slow_relays.stands(relay))
            moment = random.choice(slow_relays.moments(relay))
            now, at = stand, moment
            for many in range(101):
                if many in (0, 1, 2, 5, 99, 100):
                    self.assertEqual(stand_after(relay, faults, moment, stand, many), now)
                now = slow_relays.step(relay, faults, at, now, ())
                at = slow_relays.next_moment(relay, at)

    def test_great_relays(self):
        net = (3, ((1, 2, 3, 4, 5, 6, 7, 0),))
        everyone = (((0,) * 4,) * 2, tuple(range(8)))
        relay = (net, flags(3), MIXED, 2, 2, ((), (everyone,) * 6))
        stand = (1, 2, 4, 0, 0, 0, 0, 0)
        self.assertEqual(len(laters(relay, (), 0, (1, 2, 4, 1, 2, 4, 1, 2))), 2 ** 8)
        self.assertEqual(stand_after(relay, (), 0, stand, 7), (7,) * 8)
        self.assertEqual(stand_after(relay, (), 0, stand, 1), (1, 3, 6, 4, 0, 0, 0, 0))


if __name__ == "__main__":
    unittest.main()
