"""Tests that name the faults, papers on it, the fewest of them that are enough."""

import unittest
from random import Random

from alikeagain.errors import BadNumber, BadPaper, BadTest, TooGreat
from alikeagain.naming import check_names, enough_tests, kinds_told, mixed_pair, name_paper, names
from alikeagain.probes import all_faults, classes

from tests import probe_samples, slow_probes
from tests.kind_samples import SINGLE, greatest
from tests.nets_samples import NET, OMEGA
from tests.plan_samples import KEEP, SMALL, TURN
from tests.probe_samples import BOTH, OTHERS, OWN, QUIET, params, some_probes, some_tests
from tests.refusals import NO_TUPLES, Refusals, otherwise

NAMING = ("net", "kind", "tests", "most")
FORMS = NO_TUPLES + ((), ("names",), ("names", (), ()), ("mixed", (), ()), ("mixed", (), (), (), ()), ("mixed",), ["names", ()],
                     ("Names", ()), (None, ()), ((), ()), ("mixed", ()), ("names", (), (), ()))
# These tell apart whose message comes over, but not what is stuck straight from what is lost both ways.
OVER = ((TURN, (0, 1)), (TURN, (1, 0)))


class TestNaming(Refusals, unittest.TestCase):
    def test_refusals(self):
        for function in (names, mixed_pair, kinds_told, name_paper, enough_tests):
            self.all_refusals(function, params(*NAMING))
        good = name_paper(*[value for _, value, _ in params(*NAMING)])
        wrongs = [(value, BadPaper, {"word": "form"}) for value in FORMS]
        wrongs += [(("names", value), BadPaper, {"word": "names"}) for value in NO_TUPLES + ((), ((),))]
        wrongs += [(("mixed", value, (), ()), BadPaper, {"word": "mixed"}) for value in NO_TUPLES + ((),)]
        wrongs += [(("mixed", (), value, ()), BadPaper, {"word": "mixed"}) for value in NO_TUPLES]
        wrongs += [(("mixed", (), (), value), BadPaper, {"word": "mixed"}) for value in NO_TUPLES]
        self.all_refusals(check_names, params(*NAMING) + [("paper", good, wrongs)])

    def test_by_hand(self):
        zero, one = (("broken", 0, 0),), (("broken", 0, 1),)
        self.assertFalse(names(SMALL, OTHERS, (), 1))
        self.assertEqual(mixed_pair(SMALL, OTHERS, (), 1), ((), zero))
        self.assertEqual(kinds_told(SMALL, OTHERS, (), 1), 1)
        self.assertEqual(mixed_pair(SMALL, OTHERS, OVER[:1], 1), ((), zero))
        self.assertEqual(mixed_pair(SMALL, OTHERS, OVER, 1), ((), (("stuck", 0, 0, 1),)))
        self.assertEqual(kinds_told(SMALL, OTHERS, OVER, 1), 4)
        keep = (((0,),), (0, 1))
        more = [*OVER, (keep, (0, 1))]
        self.assertTrue(names(SMALL, OTHERS, more, 1))
        self.assertIsNone(mixed_pair(SMALL, OTHERS, more, 1))
        self.assertEqual(kinds_told(SMALL, OTHERS, more, 1), 5)
        self.assertEqual(name_paper(SMALL, OTHERS, more, 1)[0], "names")
        self.assertEqual(enough_tests(SMALL, OTHERS, more, 1), (0, 1, 2))
        self.assertEqual(enough_tests(SMALL, OTHERS, [OVER[0]] * 3, 1), (0,))
        self.assertEqual(enough_tests(SMALL, OTHERS, [(KEEP, (0, 0)), OVER[1], OVER[1]], 1), (1,))
        self.assertEqual(enough_tests(SMALL, OTHERS, (), 1), ())
        self.assertEqual(enough_tests(SMALL, OTHERS, OVER, 0), ())
        paper = ("mixed", zero, one, OVER[0])
        self.assertEqual(check_names(SMALL, OTHERS, (), 1, paper), "mixed")
        self.assertEqual(check_names(SMALL, OTHERS, [(KEEP, (0, 1))], 2, paper), "mixed")
        self.refused(check_names, (SMALL, OTHERS, (), 0, paper), BadPaper, word="mixed")
        self.refused(check_names, (SMALL, OTHERS, OVER[1:], 1, paper), BadPaper, word="mixed")

    def test_whatever_is_asked_names_faults_that_are_all_alike(self):
        for kind in (SINGLE, QUIET):
            for most in (0, 1, 2):
                self.assertTrue(names(SMALL, kind, (), most))
                self.assertEqual(name_paper(SMALL, kind, (), most), ("names", ((),)))
                self.assertEqual(kinds_told(SMALL, kind, (), most), 1)
        # Without faults there is one class alone.
        self.assertTrue(names(SMALL, BOTH, (), 0))
        self.assertEqual(check_names(SMALL, BOTH, (), 0, ("names", ((),))), "names")
        self.refused(check_names, (SMALL, BOTH, (), 1, ("names", ((),))), BadPaper, word="names")

    def test_by_all_tests(self):
        told = {}
        for net, kind, tests, most in self.cases():
            pair = slow_probes.mixed_pair(net, kind, tests, most)
            self.assertEqual(mixed_pair(net, kind, tests, most), pair)
            self.assertEqual(names(net, kind, list(tests), most), pair is None)
            rows = {slow_probes.outcomes(net, kind, faults, tests) for faults in all_faults(net, most)}
            self.assertEqual(kinds_told(net, kind, tests, most), len(rows))
            self.assertEqual(enough_tests(net, kind, tests, most), slow_probes.enough_tests(net, kind, tests, most))
            paper = name_paper(net, kind, tests, most)
            self.assertEqual(paper[0], "names" if pair is None else "mixed")
            self.assertEqual(check_names(net, kind, tests, most, paper), paper[0])
            self.assertEqual(slow_probes.paper_on_naming(net, kind, tests, most, paper), paper[0])
            if pair is not None and len(classes(net, kind, most)) > 1:
                told["mixed"] = True
            elif len(rows) > 1:
                told["named"] = True
        self.assertEqual(len(told), 2)

    def cases(self):
        """Nets, kinds, tests and MOST; of some all faults are named."""
        random = Random(311)
        found = some_probes(312, 50)
        for kind in (OTHERS, OWN, BOTH):
            for most in (1, 2):
                for many in (6, 8):
                    found.append((SMALL, kind, tuple(some_tests(random, SMALL, kind, many)), most))
        return found

    def test_papers_with_something_otherwise(self):
        held = {}
        cases = [case for case in self.cases() if case[0][0] == 1 and len(case[2]) < 7]
        for net, kind, tests, most in cases[:14] + [(SMALL, OTHERS, [*OVER, (KEEP, (0, 1))], 1)]:
            paper = name_paper(net, kind, tests, most)
            for other in otherwise(paper):
                expected = slow_probes.paper_on_naming(net, kind, tests, most, other)
                if isinstance(expected, list):
                    self.refused(check_names, (net, kind, tests, most, other), BadPaper, word=expected[0])
                else:
                    self.assertEqual(check_names(net, kind, tests, most, other), expected)
                held[isinstance(expected, list), paper[0]] = True
        self.assertIn((False, "mixed"), held)
        self.assertIn((True, "mixed"), held)
        self.assertIn((True, "names"), held)

    def test_too_great(self):
        for function in (names, mixed_pair, kinds_told, name_paper, enough_tests):
            self.refused(function, (OMEGA, OTHERS, (), 1), TooGreat, most=4000)
            self.refused(function, (OMEGA, OTHERS, (), 0), TooGreat, most=4000)
            self.refused(function, (OMEGA, OTHERS, (None,), 1), BadTest, place=0)
            self.refused(function, (OMEGA, OTHERS, (), -1), BadNumber, value=-1)
            self.refused(function, ((3, ()), OTHERS, (), 2), TooGreat, most=4000)
        for paper in (None, ("names", ()), ("mixed", (), (), ())):
            self.refused(check_names, (OMEGA, OTHERS, (), 1, paper), TooGreat, most=4000)
            self.refused(check_names, (OMEGA, OTHERS, (), 3, paper), BadNumber, value=3)

    def test_eight_and_nine_tests(self):
        random = Random(313)
        eight = tuple(some_tests(random, SMALL, BOTH, 8))
        self.assertEqual(enough_tests(SMALL, BOTH, eight, 2), slow_probes.enough_tests(SMALL, BOTH, eight, 2))
        self.refused(enough_tests, (SMALL, BOTH, (*eight, eight[0]), 2), TooGreat, most=8)
        self.refused(enough_tests, (SMALL, BOTH, (*eight, None), 2), BadTest, place=8)
        self.refused(enough_tests, (SMALL, BOTH, (*eight, eight[0]), 3), BadNumber, value=3)
        # More than eight tests are refused ahead of too many faults.
        nine = tuple(some_tests(random, OMEGA, OTHERS, 9))
        self.refused(enough_tests, (OMEGA, OTHERS, nine, 1), TooGreat, most=8)
        self.refused(enough_tests, (OMEGA, OTHERS, nine[:8], 1), TooGreat, most=4000)
        twenty = [probe_samples.TEST] * 20
        self.assertEqual(kinds_told(NET, greatest(3), twenty[:0], 1), 1)
        self.assertGreater(kinds_told(NET, probe_samples.KIND, twenty, 1), 1)


if __name__ == "__main__":
    unittest.main()
