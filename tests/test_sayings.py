"""Sayings, whether they are so, and where steps by MAY lead."""

import unittest
from random import Random

from alikeagain.errors import BadNumber, BadSaying, BadStand
from alikeagain.relays import laters
from alikeagain.sayings import is_so, laters_by, need_saying

from tests import slow_wishes
from tests.kind_samples import flags, greatest
from tests.nets_samples import OMEGA
from tests.plan_samples import GO, KEEP, SMALL, TURN
from tests.refusals import Refusals, agree
from tests.relay_samples import CLEAR, MIXED, RELAY
from tests.wish_samples import ALIKE, SIMPLE, THIRTEEN, TWELVE, TWELVE_DEEP, WRONG_SAYINGS, any_saying, nots, params
from tests.wish_samples import random_saying, some_wishing

TWO = (SMALL, greatest(3), ("ab", "abab", "cd"), 2, 1, ((GO,), (TURN, KEEP)))


class TestSayings(Refusals, unittest.TestCase):
    def test_refusals(self):
        self.all_refusals(need_saying, params("relay", "saying"))
        self.all_refusals(is_so, params("relay", "moment", "stand", "saying"))
        self.all_refusals(laters_by, params("relay", "faults", "may", "moment", "stand"))

    def test_the_saying_itself_is_told(self):
        for saying in SIMPLE + (TWELVE, TWELVE_DEEP, nots(ALIKE, 4), ("and", ALIKE, ("has", 0, 0))):
            self.assertIs(need_saying(RELAY, saying), saying)

    def test_paths_by_other_means(self):
        for saying, path in WRONG_SAYINGS:
            self.assertTrue(agree(slow_wishes.wrong_part(RELAY, saying), path), saying)
        random = Random(331)
        told = {}
        for _ in range(400):
            saying = any_saying(random, RELAY, 6)
            path = slow_wishes.wrong_part(RELAY, saying)
            told[None if path is None else len(path) > 4] = True
            if path is None:
                self.assertIs(need_saying(RELAY, saying), saying)
            else:
                self.refused(need_saying, (RELAY, saying), BadSaying, path=path)
        self.assertEqual(len(told), 3)

    def test_a_state_that_does_not_come(self):
        # The state 3 of KIND does not come, but a saying may speak of it.
        self.assertIsNotNone(need_saying(RELAY, ("has", 0, 3)))
        self.assertFalse(is_so(RELAY, 0, (0, 1, 2, 2), ("has", 0, 3)))
        self.refused(is_so, (RELAY, 0, (0, 1, 2, 3), ("has", 0, 3)), BadStand, value=(0, 1, 2, 3))
        self.refused(is_so, (RELAY, 4, (0, 1, 2, 3), None), BadNumber, value=4)
        self.refused(is_so, (RELAY, 3, (0, 1, 2, 2), THIRTEEN), BadSaying, path=(2, 1, 2))

    def test_by_hand(self):
        # READ is (5, 0, 9, 5).
        stand = (0, 1, 2, 2)
        so = (("same", 2, 3), ("same", 3, 2), ("has", 1, 1), ("reads", 0, 5), ("reads", 3, 9), ("moment", 1),
              ("not", ("alike",)), ("or", ALIKE, ("has", 0, 0)), ("and", ("has", 0, 0), ("moment", 1)), TWELVE_DEEP)
        for saying in so:
            self.assertTrue(is_so(RELAY, 1, stand, saying), saying)
            self.assertFalse(is_so(RELAY, 1, stand, ("not", saying)) if saying is not TWELVE_DEEP else False)
        for saying in (ALIKE, ("same", 0, 1), ("has", 1, 2), ("reads", 1, 5), ("moment", 0), ("or", ALIKE, ALIKE)):
            self.assertFalse(is_so(RELAY, 1, stand, saying), saying)
        self.assertTrue(is_so(RELAY, 3, (1, 1, 1, 1), ("and", ALIKE, ("not", ("moment", 2)))))

    def test_by_other_means(self):
        random = Random(332)
        told = {}
        for relay, _, _, steps in some_wishing(333, 40):
            for moment, stand in random.sample(list(steps), min(10, len(steps))):
                saying = random_saying(random, relay)
                expected = slow_wishes.is_so(relay, (moment, stand), saying)
                self.assertEqual(is_so(relay, moment, stand, saying), expected)
                told[saying[0], expected] = True
        self.assertEqual(len(told), 16)


class TestLaters(Refusals, unittest.TestCase):
    def test_by_hand(self):
        self.assertEqual(laters_by(TWO, (), (), 0, (2, 0)), ((1, (2, 2)),))
        # Updates come first: 1 takes over what 0 has by then, or misses it if it has 0 or 1.
        self.assertEqual(laters_by(TWO, (), ((0, 0),), 0, (1, 0)), ((1, (1, 0)), (1, (1, 1)), (1, (2, 2))))
        self.assertEqual(laters_by(TWO, (), ((1, 0),), 0, (2, 0)), ((1, (2, 2)),))
        self.assertEqual(laters_by(TWO, (), ((0, 0), (1, 0)), 2, (0, 0)),
                         ((1, (0, 0)), (1, (0, 1)), (1, (1, 0)), (1, (1, 1))))
        self.assertEqual(laters_by(TWO, (("broken", 0, 0),), ((0, 0),), 0, (0, 0)), ((1, (0, 0)), (1, (1, 0))))
        # None or one of several updates of a station.
        relay = (SMALL, flags(2), CLEAR[:4], 2, 1, ((), (GO,)))
        self.assertEqual(laters_by(relay, (), ((0, 0), (0, 1)), 0, (0, 0)), ((0, (0, 0)), (0, (1, 1)), (0, (2, 2))))

    def test_by_all_choices(self):
        told = {}
        for relay, faults, may, steps in some_wishing(334, 60):
            for moment, stand in steps:
                self.assertEqual(laters_by(relay, faults, may, moment, stand), steps[moment, stand])
                later = {end for _, end in steps[moment, stand]}
                if not may:
                    self.assertEqual(sorted(later), list(laters(relay, faults, moment, stand)))
            told[len(may)] = True
        self.assertEqual(len(told), 5)

    def test_great_relays(self):
        stay = (((0,) * 4,) * 3, tuple(range(8)))
        relay = (OMEGA, greatest(8), MIXED, 2, 4, ((), (stay,) * 6))
        may = ((0, 0), (2, 0), (4, 0), (6, 0))
        stand = (0, 1, 2, 3, 4, 5, 6, 7)
        found = laters_by(relay, (), may, 5, stand)
        self.assertEqual(found, slow_wishes.laters(relay, (), may, (5, stand)))
        self.assertGreater(len(found), 16)
        self.assertTrue(all(moment == 0 for moment, _ in found))


if __name__ == "__main__":
    unittest.main()
