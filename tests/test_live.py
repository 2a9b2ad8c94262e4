"""Live relays: acts, what is heard, what is taken back, trials, copies."""

import operator
import unittest

from alikeagain.books import is_clear
from alikeagain.delays import delay
from alikeagain.errors import BadFaults, BadLetters, BadNumber, BadStation, TooGreat
from alikeagain.joins import joins
from alikeagain.live import Live, under
from alikeagain.relays import missable, step
from alikeagain.settling import settles

from tests import slow_live
from tests.kind_samples import greatest
from tests.live_samples import FAULT, GOOD_DOUBLED, RELAY, STUCK, WRONG_DOUBLED, WRONG_PUT, params, random_act, some_lives, start
from tests.nets_samples import NET, OMEGA
from tests.plan_samples import ALL, GO, KEEP, SMALL, STRAIGHT, TURN
from tests.refusals import Refusals
from tests.relay_samples import CLEAR, COPY, MIXED, STAND, SWAP


class Broken(Exception):
    """What a block ends by."""


def stands_as(live):
    """All that can be seen of a live relay."""
    return live.relay, live.moment, live.stand, live.faults, len(live)


def pair(texts=("ab", "cd", "ef"), size=2, times=2, ring=(TURN,)):
    """A relay of two stations."""
    return SMALL, greatest(3), texts, size, times, ((), ring)


class TestActs(Refusals, unittest.TestCase):
    def test_refusals(self):
        def begin(relay, moment, stand):
            return stands_as(Live(relay, moment, stand))

        def update(station, number):
            live = start()
            return live.update(station, number), stands_as(live)

        def go(doubled):
            live = start()
            return live.go(doubled), stands_as(live)

        def put(fault):
            live = start()
            return live.put(fault), stands_as(live)

        self.all_refusals(begin, params("relay", "moment", "stand"))
        self.all_refusals(update, params("station", "number"))
        self.all_refusals(go, params("doubled"))
        self.all_refusals(put, params("fault", fault="put"))

    def test_arguments_by_name(self):
        live = Live(stand=STAND, moment=0, relay=RELAY)
        self.assertEqual(live.update(number=1, station=0), RELAY[1][1][1][0])
        live.put(fault=FAULT)
        live.heal(fault=FAULT)
        live.go(doubled=((3, (0,)),))
        self.assertEqual(len(live), 4)
        self.assertEqual(under(deed=len, manager=live.trial()), 4)

    def test_what_is_refused_changes_nothing(self):
        live = start()
        live.put(STUCK)
        live.undo()
        live.put(FAULT)
        before = stands_as(live)
        other = live.copy()
        wrongs = [(live.update, args) for args in ((4, 0), (0, 2), (None, None), (-1, 0), (True, 0), (0, False))]
        wrongs += [(live.put, (fault,)) for fault, _, _ in WRONG_PUT] + [(live.put, (FAULT,))]
        wrongs += [(live.heal, (fault,)) for fault, _, _ in WRONG_PUT] + [(live.heal, (STUCK,))]
        wrongs += [(live.go, (doubled,)) for doubled, _, _ in WRONG_DOUBLED]
        for act, args in wrongs:
            self.assertIn(type(self.raised(act, args)), (BadStation, BadNumber, BadFaults, BadLetters))
            self.assertEqual(stands_as(live), before)
            self.assertEqual(live, other)
        self.assertTrue(live.undo())
        self.assertEqual(live.faults, ())

    def test_two_wrong_arguments(self):
        live = start()
        self.refused(live.update, (4, 2), BadStation, value=4)
        self.refused(live.update, (3, 2), BadNumber, value=2)
        self.refused(Live, (RELAY, 3, None), BadNumber, value=3)

    def test_updates_and_rounds_by_hand(self):
        live = Live(pair(), 0, (0, 0))
        self.assertEqual(stands_as(live), (pair(), 0, (0, 0), (), 0))
        self.assertEqual(live.update(1, 0), 1)
        self.assertEqual(live.stand, (0, 1))
        self.assertFalse(live.is_alike())
        self.assertEqual(live.go(), (1, 0))
        self.assertEqual(live.stand, (1, 1))
        self.assertTrue(live.is_alike())
        self.assertEqual(live.update(1, 0), 2)
        self.assertEqual(live.update(1, 0), 2)
        live.put(("broken", 0, 0))
        self.assertEqual(live.faults, (("broken", 0, 0),))
        self.assertEqual(live.go(()), (2, None))
        self.assertEqual(live.stand, (2, 2))
        self.assertIsNone(live.heal(("broken", 0, 0)))
        self.assertEqual(len(live), 7)
        # Moments go on: ahead once, then the ring again and again.
        live = Live((*pair()[:5], ((GO,), (KEEP, TURN))), 0, (1, 0))
        self.assertEqual(live.go(), (None, 1))
        told = []
        for _ in range(4):
            told.append(live.moment)
            live.go()
        self.assertEqual(told, [1, 2, 1, 2])
        self.assertEqual(live.moment, 1)

    def test_all_are_heard_at_once(self):
        live = Live((SMALL, SWAP, CLEAR[:2], 2, 1, ((), (TURN,))), 0, (0, 0))
        self.assertEqual(live.go(), (0, 0))
        self.assertEqual(live.stand, (1, 1))
        live = Live((SMALL, COPY, CLEAR[:2], 2, 1, ((), (TURN, KEEP))), 0, (0, 1))
        live.go()
        self.assertEqual(live.stand, (1, 0))
        # One may hear itself.
        self.assertEqual(live.go(), (1, 0))

    def test_doubled_messages_by_hand(self):
        # "ab" becomes "abab", which is a text by itself: so it is read neither as the one nor as the other.
        live = Live(pair(("ab", "abab", "cd")), 0, (0, 2))
        self.assertEqual(live.go(((0, (0,)),)), (2, None))
        self.assertEqual(live.stand, (2, 2))
        live.undo()
        self.assertEqual(live.go(((1, (0, 2)),)), (2, 0))
        live = Live(pair(("ab", "abab", "cd")), 0, (1, 0))
        # Of "abab" by itself nobody can tell; of "ab" one can.
        self.assertEqual(live.go(), (0, None))
        live.undo()
        # By both doublings "abab" is what "ab" cannot become by as many.
        self.assertEqual(live.go(((0, (0, 0)),)), (0, 1))
        self.assertEqual(live.stand, (1, 1))
        live.undo()
        self.refused(live.go, (((0, (0, 0, 0)),),), BadLetters, value=((0, (0, 0, 0)),))
        # The places are those of the word by then.
        self.refused(live.go, (((1, (1,)),),), BadLetters, value=((1, (1,)),))
        self.assertEqual(live.go(((1, (0, 2)),)), (None, None))
        live.undo()
        self.refused(live.go, (((1, (0, 3)),),), BadLetters, value=((1, (0, 3)),))
        # What is doubled, but comes to nobody.
        live = Live(pair(), 0, (1, 0))
        live.put(("broken", 1, 1))
        self.assertEqual(live.go(((0, (0,)), (1, (0,)))), (0, None))
        # One that does not send has no message.
        live = Live(pair(ring=(GO,)), 0, (1, 0))
        self.assertEqual(live.go(((0, (0,)),)), (None, 1))
        self.refused(live.go, (((1, (0,)),),), BadLetters, value=((1, (0,)),))

    def test_no_doublings(self):
        # By TIMES 0, and of texts that are too short, nothing can be doubled.
        for relay in (pair(times=0), pair(("a", "b", "c")), pair(("abc", "cba", "aaa"), 4)):
            live = Live(relay, 0, (1, 2))
            self.refused(live.go, (((0, (0,)),),), BadLetters, value=((0, (0,)),))
            self.refused(live.go, (((0, ()),),), BadLetters, value=((0, ()),))
            self.assertEqual(live.go(), (2, 1))

    def test_longest_words(self):
        texts = ("abcdef" * 4, "fedcba" * 4, "abc" * 8)
        live = Live(pair(texts, 4, 4), 0, (0, 1))
        self.assertEqual(live.go(((0, (0, 0, 0, 0)), (1, (20, 24, 28, 32)))), (1, 0))
        self.refused(live.go, (((0, (0,) * 5),),), BadLetters, value=((0, (0,) * 5),))
        live.undo()
        self.refused(live.go, (((1, (20, 24, 28, 33)),),), BadLetters, value=((1, (20, 24, 28, 33)),))
        self.refused(live.go, (((1, (21,)),),), BadLetters, value=((1, (21,)),))

    def test_good_doubled(self):
        for doubled in GOOD_DOUBLED:
            live = start()
            before = repr(doubled)
            live.go(doubled)
            self.assertEqual((len(live), repr(doubled)), (1, before))
        live = start(2)
        # Nobody sends.
        self.assertEqual(live.go(), (None,) * 4)
        live.undo()
        self.refused(live.go, (((0, (0,)),),), BadLetters, value=((0, (0,)),))

    def test_faults(self):
        live = Live(pair(), 0, (0, 0))
        live.put(("stuck", 0, 0, 1))
        self.refused(live.put, (("stuck", 0, 0, 1),), BadFaults, place=("stuck", 0, 0, 1))
        # The other setting of the same switch.
        self.refused(live.put, (("stuck", 0, 0, 0),), BadFaults, place=("stuck", 0, 0, 0))
        self.refused(live.heal, (("stuck", 0, 0, 0),), BadFaults, place=("stuck", 0, 0, 0))
        live.put(("broken", 1, 0))
        self.assertEqual(live.faults, (("broken", 1, 0), ("stuck", 0, 0, 1)))
        # A third one.
        self.refused(live.put, (("broken", 0, 0),), BadFaults, place=("broken", 0, 0))
        self.refused(live.put, (("broken", 1, 0),), BadFaults, place=("broken", 1, 0))
        live.heal(("stuck", 0, 0, 1))
        live.put(("broken", 0, 1))
        self.assertEqual(live.faults, (("broken", 0, 1), ("broken", 1, 0)))
        live.heal(("broken", 0, 1))
        live.heal(("broken", 1, 0))
        self.assertEqual(live.faults, ())
        self.refused(live.heal, (("broken", 1, 0),), BadFaults, place=("broken", 1, 0))
        self.refused(live.heal, (None,), BadFaults, place=None)
        self.refused(live.heal, (("broken", True, 0),), BadFaults, place=("broken", True, 0))
        self.assertEqual(len(live), 6)

    def test_settles(self):
        live = Live(pair(), 0, (0, 0))
        self.assertEqual(live.settles(), 1)
        live.put(("broken", 0, 0))
        self.assertIsNone(live.settles())
        live.undo()
        self.assertEqual(live.settles(), 1)
        # A kind that does not join is decided by a table.
        wide = (NET, (0, ((1,) * 7,), ((0,) * 7,) * 7, (0,) * 7), CLEAR[:2], 2, 1, ((), ((STRAIGHT, ALL),)))
        self.assertEqual(Live(wide, 0, (0,) * 4).settles(), settles(wide, ()))
        great = (NET, (0, ((1, 2, 3, 4, 5, 6, 6),), tuple((state,) * 7 for state in range(7)), (0,) * 7), CLEAR[:7], 2, 1,
                 ((), ((STRAIGHT, ALL),)))
        self.assertFalse(joins(great[1]))
        live = Live(great, 0, (0,) * 4)
        self.refused(live.settles, (), TooGreat, most=2000)
        mixed = (OMEGA, COPY, ("ab", "abab"), 2, 1, ((), ((((0,) * 4,) * 3, tuple(range(8))),)))
        live = Live(mixed, 0, (0,) * 8)
        self.refused(live.settles, (), TooGreat, most=20000)
        # Messages that are lost are not counted.
        live.put(("broken", 0, 0))
        live.put(("broken", 0, 1))
        self.assertEqual(live.settles(), settles(mixed, live.faults))

    def test_three_hundred_acts(self):
        live = Live(pair(), 0, (0, 2))
        deeds = [lambda: live.update(0, 0), lambda: live.go(((1, (0,)),)), lambda: live.put(FAULT_OF_TWO), lambda: live.heal(FAULT_OF_TWO)]
        for number in range(300):
            deeds[number % 4]()
        self.assertEqual(len(live), 300)
        before = stands_as(live)
        for act, args in ((live.update, (0, 0)), (live.go, ()), (live.go, (((1, (0,)),),)), (live.put, (FAULT_OF_TWO,))):
            self.refused(act, args, TooGreat, most=300)
            self.assertEqual(stands_as(live), before)
        # What is wrong is refused ahead of that.
        self.refused(live.update, (2, 0), BadStation, value=2)
        self.refused(live.update, (0, 1), BadNumber, value=1)
        self.refused(live.go, (((1, ()),),), BadLetters, value=((1, ()),))
        self.refused(live.put, (None,), BadFaults, place=None)
        self.refused(live.heal, (FAULT_OF_TWO,), BadFaults, place=FAULT_OF_TWO)
        self.assertTrue(live.undo())
        self.assertEqual(live.faults, (FAULT_OF_TWO,))
        live.go()
        self.refused(live.heal, (FAULT_OF_TWO,), TooGreat, most=300)
        for number in range(300):
            self.assertEqual(len(live), 300 - number)
            self.assertTrue(live.undo())
        self.assertFalse(live.undo())
        self.assertEqual(stands_as(live), (pair(), 0, (0, 2), (), 0))
        self.assertEqual(live.update(1, 0), 2)

    def test_by_other_means(self):
        told = {}
        for live, other, random in some_lives(411, 60):
            for _ in range(30):
                word, args = random_act(random, other)
                if word == "go":
                    told["unread"] = told.get("unread") or self.check_round(live, other, args[0])
                expected = getattr(other, word)(*args)
                self.assertEqual(getattr(live, word)(*args), expected)
                self.assertEqual(stands_as(live), (other.relay, *other.told()))
                self.assertIs(live.is_alike(), len(set(live.stand)) == 1)
                told[word, expected is not False] = True
            while other.undo():
                self.assertTrue(live.undo())
                self.assertEqual(stands_as(live), (other.relay, *other.told()))
            self.assertFalse(live.undo())
        self.assertTrue(told["unread"])
        self.assertEqual(len(told), 7)

    def check_round(self, live, other, doubled):
        """Assert that a round is a step of the relay; whether somebody is unread there."""
        places = dict(doubled)
        unread = [sender for sender in other.hears() if sender is not None
                  and slow_live.read(other.relay, other.word_of(sender, places.get(sender, ()))) is None]
        missed = missable(live.relay)
        self.assertTrue(all(live.stand[sender] in missed for sender in unread))
        expected = step(live.relay, live.faults, live.moment, live.stand, tuple(sorted(unread)))
        trial = live.copy()
        trial.go(doubled)
        self.assertEqual(trial.stand, expected)
        return bool(unread)

    def test_all_come_to_be_alike(self):
        told = {}
        for live, other, random in some_lives(412, 80):
            for word, args in [random_act(random, other) for _ in range(4)]:
                if word not in ("go", "undo") and self.raised(getattr(live, word), args) is None:
                    getattr(other, word)(*args)
            relay = live.relay
            least = delay(relay[0], relay[5], live.faults)
            if not joins(relay[1]) or not is_clear(relay[2], relay[3], relay[4]) or least is None:
                continue
            self.assertEqual(live.settles(), settles(relay, live.faults))
            for _ in range(least):
                doubled = other.random_doubled(random)
                told[bool(doubled)] = True
                self.assertEqual(live.go(doubled), other.go(doubled))
            self.assertTrue(live.is_alike())
            live.go()
            self.assertTrue(live.is_alike())
            told[least] = True
        self.assertGreaterEqual(len(told), 5)


FAULT_OF_TWO = ("broken", 1, 1)


class TestTakingBack(Refusals, unittest.TestCase):
    def test_copies(self):
        live = start()
        live.update(0, 0)
        live.put(FAULT)
        other = live.copy()
        self.assertIsNot(other, live)
        self.assertIsInstance(other, Live)
        self.assertEqual(stands_as(other), stands_as(live))
        before = stands_as(live)
        other.go()
        other.heal(FAULT)
        self.assertEqual(stands_as(live), before)
        live.undo()
        live.undo()
        self.assertEqual(stands_as(live), stands_as(start()))
        self.assertEqual(len(other), 4)
        for _ in range(4):
            self.assertTrue(other.undo())
        self.assertFalse(other.undo())
        self.assertEqual(other, live)

    def test_trials(self):
        live = start()
        live.update(0, 0)
        before = stands_as(live)
        with live.trial() as one:
            self.assertIs(one, live)
            one.go()
            one.put(FAULT)
            self.assertEqual(len(live), 3)
            # More is taken back than was done in the block.
            while live.undo():
                pass
            live.update(1, 1)
        self.assertEqual(stands_as(live), before)
        self.assertTrue(live.undo())
        self.assertEqual(stands_as(live), stands_as(start()))
        with live.trial():
            pass
        self.assertEqual(stands_as(live), stands_as(start()))

    def test_trials_that_end_by_an_exception(self):
        live = start()
        live.put(FAULT)
        before = stands_as(live)
        with self.assertRaises(Broken):
            with live.trial() as one:
                one.undo()
                one.go()
                raise Broken()
        self.assertEqual(stands_as(live), before)
        with self.assertRaises(BadFaults):
            with live.trial() as one:
                one.update(0, 0)
                one.put(FAULT)
        self.assertEqual(stands_as(live), before)
        for _ in range(299):
            live.update(0, 0)
        before = stands_as(live)
        with self.assertRaises(TooGreat):
            with live.trial() as one:
                one.undo()
                one.undo()
                one.go()
                one.go()
                one.go()
        self.assertEqual(stands_as(live), before)

    def test_one_trial_in_another(self):
        live = start()
        with live.trial() as outer:
            outer.update(0, 0)
            middle = stands_as(live)
            with live.trial() as inner:
                self.assertIs(inner, outer)
                inner.undo()
                inner.go()
                inner.go()
            self.assertEqual(stands_as(live), middle)
            with self.assertRaises(Broken):
                with live.trial() as inner:
                    inner.put(STUCK)
                    raise Broken()
            self.assertEqual(stands_as(live), middle)
        self.assertEqual(stands_as(live), stands_as(start()))

    def test_one_object_for_several_blocks(self):
        live = start()
        trial = live.trial()
        # A block begins when it begins, not when its manager was made.
        live.update(0, 0)
        first = stands_as(live)
        with trial:
            live.go()
        self.assertEqual(stands_as(live), first)
        live.go()
        second = stands_as(live)
        with self.assertRaises(Broken):
            with trial as one:
                one.undo()
                raise Broken()
        self.assertEqual(stands_as(live), second)
        with trial:
            live.put(FAULT)
            middle = stands_as(live)
            with trial as one:
                one.go()
                one.heal(FAULT)
            self.assertEqual(stands_as(live), middle)
        self.assertEqual(stands_as(live), second)

    def test_copies_made_in_a_trial_stay(self):
        live = start()
        with live.trial():
            live.go()
            other = live.copy()
        self.assertEqual(len(other), 1)
        self.assertEqual(other.moment, 1)
        self.assertEqual(stands_as(live), stands_as(start()))
        self.assertNotEqual(other, live)
        # A trial of a copy has nothing to do with the first one.
        with other.trial() as one:
            self.assertIs(one, other)
            live.update(0, 0)
            one.undo()
        self.assertEqual((len(live), len(other)), (1, 1))

    def test_under(self):
        live = start()
        self.assertEqual(under(live.trial(), lambda one: (one is live, one.go(), len(one)))[::2], (True, 1))
        self.assertEqual(stands_as(live), stands_as(start()))
        with self.assertRaises(Broken):
            under(live.trial(), self.breaking)
        self.assertEqual(stands_as(live), stands_as(start()))
        self.refused(under, (live.trial(), lambda one: one.update(4, 0)), BadStation, value=4)
        self.assertIsNone(under(live.trial(), lambda one: None))
        self.assertEqual(under(live.trial(), stands_as), stands_as(live))
        trial = live.trial()
        self.assertEqual(under(trial, lambda one: under(trial, lambda two: two.update(0, 0))), RELAY[1][1][0][STAND[0]])
        self.assertEqual(len(live), 0)

    def breaking(self, live):
        live.go()
        raise Broken()

    def test_trials_by_other_means(self):
        for live, other, random in some_lives(413, 30):
            for _ in range(6):
                word, args = random_act(random, other)
                self.assertEqual(getattr(live, word)(*args), getattr(other, word)(*args))
                with live.trial():
                    for _ in range(random.randrange(4)):
                        live.undo()
                    for _ in range(random.randrange(4)):
                        live.go()
                self.assertEqual(stands_as(live), (other.relay, *other.told()))


class TestOperators(Refusals, unittest.TestCase):
    def test_equal_lives(self):
        one, other = start(), start()
        self.assertTrue(one == other)
        self.assertFalse(one != other)
        # Acts are not looked at.
        one.put(FAULT)
        self.assertTrue(one != other)
        one.heal(FAULT)
        self.assertTrue(one == other)
        self.assertEqual((len(one), len(other)), (2, 0))
        self.assertFalse(one == start(1))
        self.assertFalse(one == start(0, (0, 1, 2, 1)))
        self.assertFalse(one == Live((*RELAY[:4], 1, RELAY[5]), 0, STAND))
        self.assertTrue(one == Live(tuple(list(RELAY)), 0, tuple(list(STAND))))
        one.go()
        self.assertFalse(one == other)
        one.undo()
        self.assertIs(one == other, True)

    def test_other_values(self):
        live = start()
        for value in (None, 0, 1, "", (), [], {}, stands_as(live), RELAY, STAND, live.trial(), object()):
            self.assertIs(live == value, False)
            self.assertIs(live != value, True)
            self.assertIs(value == live, False)
            self.assertIs(value != live, True)

    def test_what_is_not_described(self):
        live = start()
        signs = (operator.lt, operator.le, operator.gt, operator.ge, operator.add, operator.sub, operator.mul, operator.floordiv,
                 operator.mod, operator.pow, operator.and_, operator.or_, operator.xor, operator.lshift, operator.rshift,
                 operator.truediv, operator.matmul, operator.iadd, operator.contains, operator.getitem)
        for sign in signs:
            for value in (live, start(), 1, STAND):
                with self.assertRaises(TypeError):
                    sign(live, value)
        for sign in signs[:16]:
            for value in (1, None, live.trial()):
                with self.assertRaises(TypeError):
                    sign(value, live)
        for sign in (operator.neg, operator.pos, operator.invert, operator.abs, iter):
            with self.assertRaises(TypeError):
                sign(live)

    def test_properties_stay(self):
        live = start()
        live.go()
        before = stands_as(live)
        for name in ("relay", "moment", "stand", "faults"):
            with self.assertRaises(AttributeError):
                setattr(live, name, getattr(live, name))
        self.assertEqual(stands_as(live), before)
        self.assertIs(live.relay, live.relay)
        self.assertEqual([type(value) for value in before], [tuple, int, tuple, tuple, int])
        # What was told stays when the live relay goes on.
        stand, faults = live.stand, live.faults
        live.update(0, 1)
        live.put(FAULT)
        self.assertEqual((stand, faults), before[2:4])

    def test_equal_lives_tell_the_same(self):
        one, other = start(), start()
        for act in (lambda live: live.go(GOOD_DOUBLED[2]), lambda live: live.update(2, 1), lambda live: live.settles(),
                    lambda live: live.go(), lambda live: live.put(STUCK), lambda live: live.undo(), lambda live: live.is_alike()):
            self.assertEqual(act(one), act(other))
            self.assertEqual(stands_as(one), stands_as(other))
        self.assertEqual(missable(one.relay), missable(other.relay))
        self.assertEqual(len(MIXED), 8)


if __name__ == "__main__":
    unittest.main()
