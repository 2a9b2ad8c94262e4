"""Tests of nets, their outcomes, alike faults and their classes, tests that part two faults."""

import unittest
from random import Random

from alikeagain.errors import BadFaults, BadNumber, TooGreat
from alikeagain.probes import all_faults, are_alike, classes, need_test, need_tests, outcome, outcomes, parting_test

from tests import slow, slow_probes
from tests.kind_samples import KIND, SINGLE, greatest
from tests.nets_samples import GREAT, NET, OMEGA, SMALL_NETS
from tests.plan_samples import NOBODY, SMALL, TURN, random_faults
from tests.probe_samples import BOTH, OTHERS, OWN, QUIET, TEST, params, slow_outcome, some_probes
from tests.refusals import Refusals


class TestOutcomes(Refusals, unittest.TestCase):
    def test_refusals(self):
        self.all_refusals(need_test, params("net", "kind", "test"))
        self.all_refusals(need_tests, params("net", "kind", "tests"))
        self.all_refusals(outcome, params("net", "kind", "faults", "test"))
        self.all_refusals(outcomes, params("net", "kind", "faults", "tests"))

    def test_the_argument_itself_is_told(self):
        self.assertIs(need_test(NET, KIND, TEST), TEST)
        for value in ((), [], [TEST], (TEST, TEST), [TEST] * 20, (TEST,) * 20):
            self.assertIs(need_tests(NET, KIND, value), value)

    def test_by_hand(self):
        self.assertEqual(outcome(SMALL, greatest(3), (), (TURN, (2, 1))), (2, 2))
        self.assertEqual(outcome(SMALL, greatest(3), (("broken", 0, 0),), (TURN, (2, 1))), (2, 1))
        self.assertEqual(outcome(SMALL, greatest(3), (("stuck", 0, 0, 0),), (TURN, (2, 1))), (2, 1))
        # By these settings each station hears itself.
        keep = (((0,),), (0, 1))
        self.assertEqual(outcome(SMALL, OWN, (), (keep, (0, 1))), (1, 0))
        self.assertEqual(outcome(SMALL, OWN, (("stuck", 0, 0, 1),), (keep, (0, 1))), (1, 0))
        self.assertEqual(outcome(SMALL, BOTH, (), (keep, (0, 2))), (1, 2))
        self.assertEqual(outcome(SMALL, BOTH, (), (TURN, (0, 2))), (2, 2))
        self.assertEqual(outcome(SMALL, BOTH, (), (NOBODY, (0, 2))), (0, 2))
        self.assertEqual(outcomes(SMALL, BOTH, (), ()), ())
        self.assertEqual(outcomes(SMALL, BOTH, (), [(TURN, (0, 2)), (keep, (0, 2))]), ((2, 2), (1, 2)))

    def test_by_other_means(self):
        random = Random(301)
        for net, kind, tests, _ in some_probes(302, 80):
            faults = random_faults(random, net)
            expected = slow_probes.outcomes(net, kind, faults, tests)
            self.assertEqual(outcomes(net, kind, faults, tests), expected)
            self.assertEqual(outcomes(net, kind, faults, list(tests)), expected)
            for test, told in zip(tests, expected):
                self.assertEqual(outcome(net, kind, faults, test), told)


class TestFaults(Refusals, unittest.TestCase):
    def test_refusals(self):
        self.all_refusals(all_faults, params("net", "most"))
        self.all_refusals(classes, params("net", "kind", "most"))
        self.all_refusals(are_alike, params("net", "kind", "one", "other"))
        self.all_refusals(parting_test, params("net", "kind", "one", "other"))

    def test_all_faults(self):
        for net in SMALL_NETS:
            found = tuple(sorted(slow.all_faults(net)))
            for most in (0, 1, 2):
                self.assertEqual(all_faults(net, most), tuple(faults for faults in found if len(faults) <= most))
        self.assertEqual(all_faults(NET, 0), ((),))
        # The pairs of a fault come right behind it alone.
        self.assertEqual(all_faults(SMALL, 2)[:4], (
            (), (("broken", 0, 0),), (("broken", 0, 0), ("broken", 0, 1)), (("broken", 0, 0), ("broken", 1, 0))))
        self.assertEqual(len(all_faults(GREAT, 2)), 1 + 72 + 72 * 71 // 2 - 16)

    def test_classes_by_hand(self):
        zero, one = (("broken", 0, 0),), (("broken", 0, 1),)
        # Nobody is seen to hear anything.
        for kind in (SINGLE, QUIET):
            for most in (0, 1, 2):
                self.assertEqual(classes(SMALL, kind, most), (all_faults(SMALL, most),))
        self.assertEqual(classes(SMALL, OTHERS, 0), (((),),))
        # One that is stuck straight loses all that can be seen.
        straight, cross = (("stuck", 0, 0, 0),), (("stuck", 0, 0, 1),)
        self.assertEqual(classes(SMALL, OTHERS, 1), (
            ((),), (zero, (("broken", 1, 1),)), (one, (("broken", 1, 0),)), (straight,), (cross,)))
        self.assertEqual(classes(SMALL, BOTH, 1), tuple((faults,) for faults in all_faults(SMALL, 1)))
        self.assertTrue(are_alike(SMALL, OTHERS, zero, (("broken", 1, 1),)))
        self.assertFalse(are_alike(SMALL, OWN, zero, (("broken", 1, 1),)))
        self.assertTrue(are_alike(SMALL, QUIET, (), zero + one))

    def test_by_all_tests(self):
        told = {}
        for net, kind, _, most in some_probes(303, 40) + [(SMALL, kind, (), 2) for kind in (QUIET, OWN, OTHERS, BOTH)]:
            expected = slow_probes.classes(net, kind, most)
            self.assertEqual(classes(net, kind, most), expected)
            told[len(expected) == 1, len(expected) == len(all_faults(net, most))] = True
            number = {faults: at for at, lot in enumerate(expected) for faults in lot}
            random = Random(304)
            for _ in range(12):
                one, other = random.choice(list(number)), random.choice(list(number))
                alike = number[one] == number[other]
                self.assertEqual(are_alike(net, kind, one, other), alike)
                test = parting_test(net, kind, one, other)
                self.assertEqual(test is None, alike)
                if test is not None:
                    self.assertIs(need_test(net, kind, test), test)
                    self.assertNotEqual(slow_outcome(net, kind, one, test), slow_outcome(net, kind, other, test))
        self.assertGreaterEqual(len(told), 3)

    def test_great_nets(self):
        # A test for each single fault of eight stations and two rows.
        net = (3, ((0, 2, 4, 6, 1, 3, 5, 7),))
        for faults in all_faults(net, 1)[1:]:
            test = parting_test(net, OTHERS, (), faults)
            self.assertEqual(test is None, are_alike(net, OTHERS, (), faults))
            if test is not None:
                self.assertNotEqual(outcome(net, OTHERS, (), test), outcome(net, OTHERS, faults, test))
        straight = ((("stuck", 0, 0, 0), ("stuck", 1, 0, 0)), (("stuck", 0, 0, 1), ("stuck", 1, 0, 0)))
        self.assertFalse(are_alike(net, BOTH, *straight))
        self.assertIsNone(parting_test(net, BOTH, straight[0], straight[0]))

    def test_too_great(self):
        for function in (are_alike, parting_test):
            # Of two faults: ten switches are few enough, twelve are not; with a net there cannot be eleven.
            function((3, ((0, 2, 4, 6, 1, 3, 5, 7),)), OTHERS, (), ())
            for net in (OMEGA, GREAT):
                self.refused(function, (net, OTHERS, (), ()), TooGreat, most=4000)
                self.refused(function, (net, OTHERS, (), None), BadFaults, place=None)
                self.refused(function, (net, OTHERS, (None,), ()), BadFaults, place=0)
        for bits in (1, 2, 3):
            for rows in (1, 2, 3, 4):
                net = (bits, (tuple(range(2 ** bits)),) * (rows - 1))
                for most in (0, 1, 2):
                    if len(all_faults(net, most)) * 2 ** (rows * 2 ** (bits - 1)) > 4000:
                        self.refused(classes, (net, SINGLE, most), TooGreat, most=4000)
                    else:
                        self.assertEqual(classes(net, SINGLE, most), (all_faults(net, most),))
        self.refused(classes, (OMEGA, OTHERS, 3), BadNumber, value=3)
        self.assertEqual(len(classes((3, ()), OTHERS, 1)), 1 + 8 + 8)
        self.refused(classes, ((3, ()), OTHERS, 2), TooGreat, most=4000)


if __name__ == "__main__":
    unittest.main()
