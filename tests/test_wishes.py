"""Wishes about all runs: whether they hold, least numbers, needed messages."""

import unittest
from random import Random

from alikeagain.errors import BadFaults, BadNumber, BadSaying, BadStand, BadWish, TooGreat
from alikeagain.settling import settles
from alikeagain.wishes import least_from, least_within, need_wish, needed_messages, which_hold, wish_holds

from tests import slow_wishes
from tests.kind_samples import SINGLE, greatest
from tests.nets_samples import OMEGA
from tests.plan_samples import ALL, COME, GO, KEEP, NOBODY, SMALL, STRAIGHT, TURN, longest
from tests.refusals import Refusals
from tests.relay_samples import CLEAR, COPY, RELAY, SWAP, clear_relays, some_relays
from tests.test_ranks import STAY, five
from tests.wish_samples import ALIKE, TWELVE, WRONG_WISHES, params, random_saying, random_wish, some_wishing

ASKED = ("relay", "faults", "may", "begin")
WORDS = ("always", "later", "again", "last")


def two(kind, *ring, book=CLEAR, ahead=()):
    """A relay of two stations."""
    return SMALL, kind, book[:len(kind[3])], 2, 1, (ahead, ring)


class TestWishes(Refusals, unittest.TestCase):
    def test_refusals(self):
        self.all_refusals(need_wish, params("relay", "wish"))
        self.all_refusals(wish_holds, params(*ASKED, "wish"))
        self.all_refusals(least_within, params(*ASKED, "saying"))
        self.all_refusals(least_from, params(*ASKED, "saying"))
        self.all_refusals(which_hold, params(*ASKED, "wishes"))
        self.all_refusals(needed_messages, params("relay", "faults", "may", "wish", wish="few_wishes"))

    def test_the_wish_itself_is_told(self):
        # Each saying counts its words by itself.
        wishes = [(word, TWELVE) for word in WORDS] + [("until", TWELVE, TWELVE), ("within", 0, ALIKE), ("from", 60, TWELVE)]
        for wish in wishes:
            self.assertIs(need_wish(RELAY, wish), wish)
        for wish, path in WRONG_WISHES[::3]:
            self.refused(which_hold, (RELAY, (), (), None, (("always", ALIKE), wish)), BadWish, path=(1, *path))

    def test_by_hand(self):
        relay = two(greatest(2), GO, COME)
        start, apart, back = (0, (0, 0)), (0, (1, 0)), (0, (0, 1))
        # From a stand that is alike nothing changes while it is quiet.
        self.assertTrue(wish_holds(relay, (), (), start, ("always", ALIKE)))
        self.assertFalse(wish_holds(relay, (), (), None, ("always", ALIKE)))
        self.assertFalse(wish_holds(relay, (), ((1, 0),), start, ("always", ALIKE)))
        # What 0 does ahead of the round it sends 1 comes to it at once.
        self.assertTrue(wish_holds(relay, (), ((0, 0),), start, ("within", 2, ALIKE)))
        self.assertTrue(wish_holds(relay, (), (), None, ("last", ALIKE)))
        self.assertTrue(wish_holds(relay, (), (), None, ("from", 2, ALIKE)))
        self.assertFalse(wish_holds(relay, (), (), None, ("from", 1, ALIKE)))
        self.assertEqual(least_from(relay, (), (), None, ALIKE), 2)
        self.assertEqual(least_from(relay, (), (), apart, ALIKE), 1)
        self.assertEqual(least_from(relay, (), (), back, ALIKE), 2)
        self.assertEqual(least_from(relay, (), (), start, ALIKE), 0)
        self.assertEqual(least_within(relay, (), (), back, ALIKE), 2)
        self.assertTrue(wish_holds(relay, (), (), back, ("until", ("same", 0, 1), ("moment", 0))))
        self.assertFalse(wish_holds(relay, (), (), back, ("until", ("same", 0, 1), ("moment", 1))))
        self.assertTrue(wish_holds(relay, (), (), back, ("until", ("has", 0, 0), ("has", 0, 1))))
        self.assertTrue(wish_holds(relay, (), (), back, ("again", ("moment", 1))))
        self.assertFalse(wish_holds(relay, (), (), back, ("last", ("moment", 1))))
        self.assertEqual(needed_messages(relay, (), (), ("last", ALIKE)), ((0, 0), (1, 1)))
        self.assertEqual(needed_messages(relay, (), (), ("again", ("moment", 1))), ())
        self.assertIsNone(needed_messages(relay, (), (), ("from", 1, ALIKE)))
        self.assertIsNone(needed_messages(relay, (("broken", 0, 0),), (), ("last", ALIKE)))
        # What is sent besides is not needed: each message by itself can be left out.
        wide = two(greatest(2), GO, COME, TURN)
        self.assertEqual(needed_messages(wide, (), (), ("last", ALIKE)), ())
        self.assertEqual(which_hold(relay, (), (), None, (("always", ALIKE), ("last", ALIKE), ("later", ALIKE))), (1, 2))

    def test_turning_for_ever(self):
        relay = two(SWAP, TURN)
        self.assertFalse(wish_holds(relay, (), (), None, ("later", ALIKE)))
        spot = (0, (0, 0))
        has = ("has", 0, 1)
        self.assertTrue(wish_holds(relay, (), (), spot, ("always", ALIKE)))
        self.assertTrue(wish_holds(relay, (), (), spot, ("again", has)))
        self.assertTrue(wish_holds(relay, (), (), spot, ("again", ("not", has))))
        self.assertFalse(wish_holds(relay, (), (), spot, ("last", has)))
        self.assertEqual(least_within(relay, (), (), spot, has), 1)
        self.assertIsNone(least_from(relay, (), (), spot, has))
        self.assertIsNone(least_within(relay, (), (), spot, ("not", ALIKE)))
        # A loop of one spot alone: the ring has one round, and nothing changes.
        keep = two(COPY, KEEP)
        spot = (0, (0, 1))
        self.assertFalse(wish_holds(keep, (), (), spot, ("later", ALIKE)))
        self.assertFalse(wish_holds(keep, (), (), spot, ("last", has)))
        self.assertTrue(wish_holds(keep, (), (), spot, ("last", ("not", has))))
        self.assertTrue(wish_holds(keep, (), (), spot, ("again", ("has", 0, 0))))

    def test_one_state_alone(self):
        relay = (OMEGA, SINGLE, ("ab",), 2, 1, ((STAY,), (STAY,) * 3))
        self.assertTrue(wish_holds(relay, (), ((0, 0), (7, 0)), None, ("always", ALIKE)))
        self.assertEqual(least_from(relay, (), (), None, ALIKE), 0)
        self.assertEqual(least_within(relay, (), (), None, ("moment", 3)), 3)
        self.assertEqual(least_from(relay, (), (), None, ("not", ("moment", 0))), 1)
        self.assertEqual(least_from(relay, (), (), (0, (0,) * 8), ("moment", 2)), None)
        self.assertEqual(needed_messages(relay, (), (), ("always", ALIKE)), ())

    def test_least_numbers_above_sixty(self):
        # Each ring of six rounds brings what 0 has one station further.
        net, (ahead, ring) = longest(2)
        relay = (net, greatest(2), CLEAR[:2], 2, 1, (ahead, ring))
        self.assertEqual(least_from(relay, (), (), None, ALIKE), 24)
        self.assertEqual(settles(relay, ()), 24)
        # All pairs of unlike states come one behind another, one in each ring, till both are 0.
        pairs = [(one, other) for one in range(8) for other in range(one + 1, 8)]
        merge = [[one] * 8 for one in range(8)]
        for (one, other), (first, second) in zip(pairs, pairs[1:] + [(0, 0)]):
            merge[one][other], merge[other][one] = first, second
        updates = (tuple(min(state + 1, 7) for state in range(8)),)
        kind = (0, updates, tuple(tuple(row) for row in merge), tuple(range(8)))
        slow = (SMALL, kind, CLEAR, 2, 1, ((NOBODY,) * 6, (NOBODY,) * 5 + (TURN,)))
        for begin in (None, (0, (0, 1)), (0, (1, 0))):
            self.assertEqual(least_within(slow, (), (), begin, ALIKE), 6 + 6 * 28)
            self.assertEqual(least_from(slow, (), (), begin, ALIKE), 6 + 6 * 28)
        self.assertEqual(least_within(slow, (), (), (11, pairs[-10]), ALIKE), 1 + 6 * 9)
        self.assertEqual(least_within(slow, (), (), (10, pairs[-10]), ALIKE), 56)
        for many, holds in ((55, False), (56, True), (60, True)):
            for word in ("within", "from"):
                self.assertIs(wish_holds(slow, (), (), (10, pairs[-10]), (word, many, ALIKE)), holds)
                self.assertFalse(wish_holds(slow, (), (), None, (word, many, ALIKE)))
        self.assertEqual(settles(slow, ()), 174)

    def test_by_all_runs(self):
        told = {}
        random = Random(341)
        for relay, faults, may, steps in some_wishing(342, 70):
            for _ in range(7):
                begin = random.choice((None, random.choice(list(steps))))
                wishes = tuple(random_wish(random, relay) for _ in range(random.randint(1, 8)))
                expected = tuple(slow_wishes.holds(relay, steps, begin, wish) for wish in wishes)
                for wish, holds in zip(wishes, expected):
                    self.assertIs(wish_holds(relay, faults, may, begin, wish), holds, (relay, faults, may, begin, wish))
                    told[wish[0], holds, begin is None] = True
                numbers = tuple(number for number, holds in enumerate(expected) if holds)
                self.assertEqual(which_hold(relay, faults, may, begin, wishes), numbers)
        self.assertEqual(len(told), 28)

    def test_least_numbers(self):
        told = {}
        random = Random(343)
        for relay, faults, may, steps in some_wishing(344, 60):
            for _ in range(4):
                begin = random.choice((None, random.choice(list(steps))))
                saying = random_saying(random, relay)
                for word, least in (("within", least_within), ("from", least_from)):
                    number = slow_wishes.least(relay, steps, begin, word, saying)
                    self.assertEqual(least(relay, faults, may, begin, saying), number)
                    told[word, None if number is None else min(number, 3)] = True
                    if number is not None and number <= 60:
                        self.assertTrue(wish_holds(relay, faults, may, begin, (word, number, saying)))
                        if number > 0:
                            self.assertFalse(wish_holds(relay, faults, may, begin, (word, number - 1, saying)))
        self.assertEqual(len(told), 10)

    def test_needed_messages(self):
        told = {}
        random = Random(345)
        for relay, faults, may, steps in some_wishing(346, 60, 40):
            for _ in range(3):
                wish = random.choice((("last", ALIKE), ("later", ALIKE), random_wish(random, relay)))
                expected = slow_wishes.needed(relay, faults, may, wish)
                self.assertEqual(needed_messages(relay, faults, may, wish), expected)
                told[None if expected is None else min(len(expected), 2)] = True
        self.assertEqual(len(told), 4)

    def test_settling(self):
        told = {}
        for relay, _ in some_relays(347, 60) + clear_relays(348, 60):
            least = settles(relay, ())
            self.assertEqual(least_from(relay, (), (), None, ALIKE), least)
            if least is not None:
                self.assertTrue(wish_holds(relay, (), (), None, ("last", ALIKE)))
            told[least is None] = True
        self.assertEqual(len(told), 2)


class TestTooGreat(Refusals, unittest.TestCase):
    def functions(self):
        wish = ("last", ALIKE)
        return ((wish_holds, (None, wish)), (least_within, (None, ALIKE)), (least_from, ((0, (0,) * 4), ALIKE)),
                (which_hold, ((0, (0,) * 4), (wish,))), (needed_messages, (wish,)))

    def test_steps(self):
        # 625 stands, 16 choices of what is unread: with one update just 20,000 steps.
        relay = five((STRAIGHT, ALL))
        for function, rest in self.functions():
            function(relay, (), ((0, 0),), *rest)
            self.refused(function, (relay, (), ((0, 0), (1, 0)), *rest), TooGreat, most=20000)
        updates = five((STRAIGHT, ALL))
        twice = (updates[1][0], updates[1][1] * 2, *updates[1][2:])
        # Two updates of one station are three choices, of two stations four.
        three = (updates[0], twice, *updates[2:5], ((), ((STRAIGHT, (0, 1, 2)),)))
        for function, rest in self.functions():
            function(three, (), ((0, 0), (0, 1)), *rest)
            function(three, (), ((0, 0), (1, 1)), *rest)
            self.refused(function, (three, (), ((0, 0), (0, 1), (1, 0)), *rest), TooGreat, most=20000)
        # What is lost by faults is not counted.
        self.assertIsNotNone(wish_holds(relay, (("broken", 0, 0),), ((0, 0), (1, 0)), None, ("last", ALIKE)))

    def test_pairs(self):
        for many, refused in ((3, False), (4, True)):
            relay = five(*[(STRAIGHT, ())] * many)
            for function, rest in self.functions():
                if refused:
                    self.refused(function, (relay, (), (), *rest), TooGreat, most=2000)
                else:
                    function(relay, (), (), *rest)
        both = five(*[(STRAIGHT, ALL)] * 4)
        self.refused(wish_holds, (both, (), ((0, 0),), (0, (0,) * 4), ("last", ALIKE)), TooGreat, most=2000)

    def test_behind_all_other_errors(self):
        great = five(*[(STRAIGHT, ALL)] * 4)
        spot = (0, (0,) * 4)
        self.refused(wish_holds, (great, None, None, None, None), BadFaults, place=None)
        self.refused(wish_holds, (great, (), ((4, 0),), None, None), BadNumber, value=((4, 0),))
        self.refused(wish_holds, (great, (), (), (4, (0,) * 4), None), BadStand, value=(4, (0,) * 4))
        self.refused(wish_holds, (great, (), (), spot, ("last", ())), BadWish, path=(1,))
        self.refused(least_within, (great, (), (), spot, ("not", ())), BadSaying, path=(1,))
        self.refused(least_from, (great, (), (), spot, ()), BadSaying, path=())
        self.refused(which_hold, (great, (), (), spot, ()), BadWish, path=None)
        self.refused(which_hold, (great, (), (), spot, (("last", ALIKE), ())), BadWish, path=(1,))
        self.refused(needed_messages, (great, (), (), ()), BadWish, path=())


if __name__ == "__main__":
    unittest.main()
