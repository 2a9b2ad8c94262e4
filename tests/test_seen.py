"""What was seen: which faults fit it, which are left, which test is best next."""

import unittest
from random import Random

from alikeagain.errors import BadNumber, BadSeen, BadTest, TooGreat
from alikeagain.probes import all_faults
from alikeagain.seen import first_false, fitting, heads_left, is_named, need_seen, next_test

from tests import slow_probes
from tests.kind_samples import KIND
from tests.nets_samples import NET, OMEGA
from tests.plan_samples import KEEP, NOBODY, SMALL, TURN
from tests.probe_samples import BOTH, OTHERS, SIGHT, TEST, params, some_probes, some_seen, some_tests
from tests.refusals import Refusals

LOOKED = ("net", "kind", "seen", "most")
ZERO, ONE = (("broken", 0, 0),), (("broken", 0, 1),)


class TestSeen(Refusals, unittest.TestCase):
    def test_refusals(self):
        self.all_refusals(need_seen, params("net", "kind", "seen"))
        for function in (fitting, first_false, heads_left, is_named):
            self.all_refusals(function, params(*LOOKED))
        self.all_refusals(next_test, params(*LOOKED, "tests"))

    def test_what_was_seen_itself_is_told(self):
        for value in ((), [], [SIGHT], (SIGHT, SIGHT), [SIGHT] * 20, (SIGHT,) * 20):
            self.assertIs(need_seen(NET, KIND, value), value)
        # What no faults can show may have been seen all the same.
        self.assertIsNotNone(need_seen(NET, KIND, [(TEST, (0, 0, 0, 0))]))

    def test_by_hand(self):
        over = (TURN, (0, 1))
        self.assertEqual(fitting(SMALL, OTHERS, (), 1), all_faults(SMALL, 1))
        self.assertEqual(heads_left(SMALL, OTHERS, (), 1), ((), ZERO, ONE, (("stuck", 0, 0, 0),), (("stuck", 0, 0, 1),)))
        # 0 heard 1, so neither this message nor the switch that crosses failed.
        seen = [(over, (1, 1))]
        self.assertEqual(fitting(SMALL, OTHERS, seen, 1), ((), ZERO, (("broken", 1, 1),), (("stuck", 0, 0, 1),)))
        self.assertEqual(heads_left(SMALL, OTHERS, seen, 1), ((), ZERO, (("stuck", 0, 0, 1),)))
        self.assertFalse(is_named(SMALL, OTHERS, seen, 1))
        tests = [over, (NOBODY, (0, 1)), (TURN, (1, 0)), (KEEP, (1, 0))]
        # The third one parts one from two, so does the last one; the first ones part none.
        self.assertEqual(next_test(SMALL, OTHERS, seen, 1, tests), 2)
        self.assertEqual(next_test(SMALL, OTHERS, seen, 1, tests[::-1]), 0)
        self.assertIsNone(next_test(SMALL, OTHERS, seen, 1, tests[:2]))
        self.assertIsNone(next_test(SMALL, OTHERS, seen, 1, ()))
        named = seen + [((TURN, (1, 0)), (1, 0))]
        self.assertEqual(heads_left(SMALL, OTHERS, named, 1), (ZERO,))
        self.assertTrue(is_named(SMALL, OTHERS, named, 1))
        self.assertIsNone(next_test(SMALL, OTHERS, named, 1, tests))
        false = named + [(over, (0, 0)), (over, (1, 1))]
        self.assertEqual(first_false(SMALL, OTHERS, false, 1), 2)
        self.assertEqual(fitting(SMALL, OTHERS, false, 1), ())
        self.assertEqual(heads_left(SMALL, OTHERS, false, 1), ())
        self.assertFalse(is_named(SMALL, OTHERS, false, 1))
        self.assertIsNone(next_test(SMALL, OTHERS, false, 1, tests))
        self.assertIsNone(first_false(SMALL, OTHERS, named, 1))
        self.assertEqual(first_false(SMALL, OTHERS, [(over, (0, 1))], 0), 0)
        self.assertIsNone(first_false(SMALL, OTHERS, [(over, (0, 1))], 1))
        self.assertIsNone(first_false(SMALL, OTHERS, [], 0))

    def test_by_all_tests(self):
        told = {}
        random = Random(321)
        for net, kind, seen, most in some_seen(322, 120):
            expected = slow_probes.fitting(net, kind, seen, most)
            self.assertEqual(fitting(net, kind, seen, most), expected)
            false = slow_probes.first_false(net, kind, seen, most)
            self.assertEqual(first_false(net, kind, seen, most), false)
            left = slow_probes.heads_left(net, kind, seen, most)
            self.assertEqual(heads_left(net, kind, seen, most), left)
            self.assertEqual(is_named(net, kind, seen, most), len(left) == 1)
            tests = some_tests(random, net, kind, random.choice((1, 3, 6)))
            best = slow_probes.next_test(net, kind, seen, most, tests)
            self.assertEqual(next_test(net, kind, seen, most, tests), best)
            told[false is None, min(len(left), 2), best is None] = True
        self.assertGreaterEqual(len(told), 4)

    def test_twenty_tests(self):
        for net, kind, tests, most in some_probes(323, 10):
            if tests:
                seen = [(tests[0], slow_probes.slow_outcome(net, kind, (), tests[0]))] * 20
                self.assertEqual(fitting(net, kind, seen, most), fitting(net, kind, seen[:1], most))
                self.assertIn((), heads_left(net, kind, seen, most))
                next_test(net, kind, seen, most, (tests[0],) * 20)

    def test_too_great(self):
        test = some_tests(Random(324), OMEGA, OTHERS, 1)[0]
        seen = ((test, slow_probes.slow_outcome(OMEGA, OTHERS, (), test)),)
        # Faults that fit are found however many there are.
        self.assertIn((), fitting(OMEGA, OTHERS, seen, 2))
        self.assertIsNone(first_false(OMEGA, OTHERS, seen, 2))
        for function in (heads_left, is_named):
            self.refused(function, (OMEGA, OTHERS, seen, 0), TooGreat, most=4000)
            self.refused(function, (OMEGA, OTHERS, seen, 3), BadNumber, value=3)
            self.refused(function, (OMEGA, OTHERS, (seen,), 1), BadSeen, place=0)
        self.refused(next_test, (OMEGA, OTHERS, seen, 1, (test,)), TooGreat, most=4000)
        self.refused(next_test, (OMEGA, OTHERS, seen, 1, (test, None)), BadTest, place=1)
        self.refused(next_test, (OMEGA, BOTH, (), 1, None), BadTest, place=None)


if __name__ == "__main__":
    unittest.main()
