"""Ranks of all moments and stands."""

import unittest

from alikeagain.errors import BadFaults, BadNumber, BadStand, TooGreat
from alikeagain.ranks import rank_at, ranks, stands

from tests import slow_relays
from tests.kind_samples import KIND, SINGLE, flags, greatest
from tests.nets_samples import NET, OMEGA
from tests.plan_samples import ALL, CROSS, GO, KEEP, SMALL, STRAIGHT, TURN
from tests.refusals import Refusals
from tests.relay_samples import CLEAR, COPY, FORGET, MIXED, PLAN, RELAY, SWAP, clear_relays, params, some_relays

EIGHT = tuple(range(8))
STAY = (((0,) * 4,) * 3, EIGHT)
# Five states, three messages and one more: just 2,000 pairs and 20,000 steps can be gone through.
FIVE = greatest(5)
QUIET = (STRAIGHT, ())
THREE = (STRAIGHT, (0, 1, 2))


def five(*rounds):
    return NET, FIVE, MIXED[:5], 2, 2, ((), rounds)


class TestRanks(Refusals, unittest.TestCase):
    def test_refusals(self):
        self.all_refusals(stands, params("relay"))
        self.all_refusals(ranks, params("relay", "faults"))
        self.all_refusals(rank_at, params("relay", "faults", "moment", "stand"))

    def test_stands_by_hand(self):
        self.assertEqual(stands((SMALL, KIND, CLEAR[:3], 2, 1, ((), (TURN,)))),
                         tuple((one, other) for one in range(3) for other in range(3)))
        self.assertEqual(stands((OMEGA, SINGLE, ("ab",), 2, 1, ((), (STAY,)))), ((0,) * 8,))
        half = (0, flags(3)[1][1:], flags(3)[2], (0,) * 8)
        self.assertEqual(stands((SMALL, half, CLEAR[:4], 2, 1, ((), (TURN,))))[:5], ((0, 0), (0, 2), (0, 4), (0, 6), (2, 0)))
        self.assertEqual(len(stands((NET, greatest(6), CLEAR[:6], 2, 1, PLAN))), 1296)
        self.assertEqual(len(stands((OMEGA, greatest(2), CLEAR[:2], 2, 1, ((STAY,) * 6, (STAY,) * 6)))), 256)

    def test_too_great_stands(self):
        self.refused(stands, ((NET, greatest(7), CLEAR[:7], 2, 1, PLAN),), TooGreat, most=2000)
        self.refused(stands, ((OMEGA, greatest(3), CLEAR[:3], 2, 1, ((), (STAY,))),), TooGreat, most=2000)

    def test_ranks_by_hand(self):
        relay = (SMALL, greatest(2), CLEAR[:2], 2, 1, ((), (TURN, KEEP)))
        self.assertEqual(ranks(relay, ()), ((0, 1, 1, 0), (0, 2, 2, 0)))
        self.assertEqual(ranks(relay, (("stuck", 0, 0, 0),)), ((0, None, None, 0),) * 2)
        self.assertEqual(ranks((*relay[:5], ((), (TURN,))), ()), ((0, 1, 1, 0),))
        self.assertEqual(ranks((*relay[:5], ((GO,), (KEEP,))), ()), ((0, None, 1, 0), (0, None, None, 0)))
        mixed = (SMALL, greatest(2), ("ab", "abab"), 2, 1, ((), (TURN,)))
        self.assertEqual(ranks(mixed, ()), ((0, None, None, 0),))
        self.assertEqual(ranks((SMALL, SINGLE, ("ab",), 2, 1, ((GO,), (KEEP,))), ()), ((0,), (0,)))
        # Alike at first, but not for ever.
        forget = (SMALL, FORGET, CLEAR[:2], 2, 1, ((), (TURN, GO)))
        self.assertEqual(ranks(forget, ()), ((0, 1, 1, 0), (2, 2, 1, 0)))
        self.assertEqual(ranks((SMALL, SWAP, CLEAR[:2], 2, 1, ((), (TURN,))), ()), ((0, None, None, 0),))
        self.assertEqual(ranks((SMALL, COPY, CLEAR[:2], 2, 1, ((), (GO, TURN))), ()), ((0, 1, 1, 0), (0, 2, 2, 0)))

    def test_by_all_choices(self):
        told = {}
        for relay, faults in some_relays(191, 90) + clear_relays(192, 60):
            found = slow_relays.ranks(slow_relays.table(relay, faults))
            expected = tuple(tuple(found[moment, stand] for stand in slow_relays.stands(relay))
                             for moment in slow_relays.moments(relay))
            self.assertEqual(ranks(relay, faults), expected)
            numbers = list(found.values())
            told[None in numbers, max((number for number in numbers if number is not None), default=-1)] = True
            for moment, stand in list(found)[::7]:
                self.assertEqual(rank_at(relay, faults, moment, stand), found[moment, stand])
        self.assertGreaterEqual(len(told), 8)

    def test_too_great(self):
        eight = (OMEGA, greatest(2), CLEAR[:2], 2, 1, ((STAY,) * 2, (STAY,) * 6))
        self.refused(ranks, (eight, ()), TooGreat, most=2000)
        self.refused(rank_at, (eight, (), 0, (0,) * 8), TooGreat, most=2000)
        seven = (*eight[:5], ((STAY,), (STAY,) * 6))
        self.assertEqual(len(ranks(seven, ())), 7)
        # If states may be missed all choices of eight messages are counted.
        mixed = (OMEGA, greatest(2), MIXED[:2], 2, 1, ((), (STAY,)))
        self.refused(ranks, (mixed, ()), TooGreat, most=20000)
        self.refused(rank_at, (mixed, (), 0, (0,) * 8), TooGreat, most=20000)
        self.refused(ranks, ((*mixed[:5], ((STAY,) * 6, (STAY,) * 2)), ()), TooGreat, most=2000)
        # Those whose messages are lost do not count.
        lost = (("broken", 0, 0), ("broken", 0, 1))
        self.assertEqual(rank_at(mixed, lost, 0, (0,) * 8), 0)
        few = (*mixed[:5], ((), ((STAY[0], (0, 1, 2, 3, 4, 5)),)))
        self.assertEqual(len(ranks(few, ())[0]), 256)
        self.refused(ranks, ((*mixed[:5], ((), ((STAY[0], (0, 1, 2, 3, 4, 5, 6)),))), ()), TooGreat, most=20000)

    def test_just_as_great_as_can_be(self):
        self.assertEqual(len(ranks(five((STRAIGHT, ALL), THREE, THREE), ())), 3)
        self.refused(ranks, (five((STRAIGHT, ALL), (STRAIGHT, ALL), QUIET), ()), TooGreat, most=20000)
        self.refused(ranks, (five(QUIET, QUIET, QUIET, QUIET), ()), TooGreat, most=2000)

    def test_wrong_arguments_ahead_of_what_is_too_great(self):
        eight = (OMEGA, greatest(2), CLEAR[:2], 2, 1, ((STAY,) * 2, (STAY,) * 6))
        self.refused(ranks, (eight, None), BadFaults, place=None)
        self.refused(rank_at, (eight, (None,), 0, (0,) * 8), BadFaults, place=0)
        self.refused(rank_at, (eight, (), 8, (0,) * 8), BadNumber, value=8)
        self.refused(rank_at, (eight, (), 7, (0,) * 7), BadStand, value=(0,) * 7)
        self.refused(rank_at, (eight, (), 7, (0,) * 7 + (2,)), BadStand, value=(0,) * 7 + (2,))
        self.refused(rank_at, (RELAY, (), 0, (CROSS, 0, 0, 0)), BadStand, value=(CROSS, 0, 0, 0))


if __name__ == "__main__":
    unittest.main()
