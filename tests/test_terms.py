"""Terms, and what they have."""

import unittest
from random import Random

from alikeagain.delays import delay
from alikeagain.errors import BadTerm
from alikeagain.joins import joins
from alikeagain.kinds import coming, need_kind
from alikeagain.settling import settles
from alikeagain.terms import kind_of, kind_terms_in, need_kind_term, need_ring_term, ring_of, ring_terms_in

from tests import nets_samples, slow_terms
from tests.kind_samples import flags, greatest
from tests.nets_samples import NET, OMEGA
from tests.plan_samples import ALL, CROSS, STRAIGHT, random_settings
from tests.refusals import Refusals, agree
from tests.relay_samples import CLEAR
from tests.term_samples import EIGHT, KIND_TERMS, ONE, PAIR, RING_TERMS, ROUND_TERM, THREE, TWELVE, TWO
from tests.term_samples import any_kind_term, any_ring_term, good_ring_term, params, some_kind_terms, wrong_kind_terms
from tests.term_samples import wrong_ring_terms


class TestKindTerms(Refusals, unittest.TestCase):
    def test_refusals(self):
        for function in (need_kind_term, kind_of, kind_terms_in):
            self.all_refusals(function, params("kind_term"))

    def test_the_term_itself_is_told(self):
        for term in KIND_TERMS:
            self.assertIs(need_kind_term(term), term)

    def test_by_hand(self):
        for many in range(2, 9):
            self.assertEqual(kind_of(("top", many)), greatest(many))
        for many in range(1, 4):
            self.assertEqual(kind_of(("flags", many)), flags(many))
        self.assertEqual(kind_of(PAIR), (0, ((2, 3, 2, 3), (1, 1, 3, 3)), flags(2)[2], (0, 1, 2, 3)))
        self.assertEqual(kind_of(("pair", ("top", 3), TWO))[1], ((2, 3, 4, 5, 4, 5), (1, 1, 3, 3, 5, 5)))
        self.assertEqual(kind_of(("without", ("flags", 3), 1)), (0, (flags(3)[1][0], flags(3)[1][2]), *flags(3)[2:]))
        self.assertEqual(kind_of(("reads", TWO, (4, 9))), (*greatest(2)[:3], (4, 9)))
        # What is read of a pair are its own numbers, whatever is read of its parts; what has been read stays by "without".
        self.assertEqual(kind_of(EIGHT)[3], tuple(range(8)))
        self.assertEqual(kind_of(("without", ("reads", ("flags", 2), (9, 8, 7, 6)), 0))[3], (9, 8, 7, 6))
        # Eight states, four updates.
        whole = kind_of(("pair", ("pair", TWO, TWO), ("flags", 1)))
        self.assertEqual((len(whole[3]), len(whole[1])), (8, 3))
        self.assertEqual(len(kind_of(("pair", ("without", ("flags", 2), 0), ("flags", 1)))[1]), 2)
        self.refused(kind_of, (("pair", PAIR, PAIR),), BadTerm, path=())
        self.refused(kind_of, (("pair", ("flags", 2), ("top", 3)),), BadTerm, path=())

    def test_terms_in_it(self):
        self.assertEqual(kind_terms_in(TWO), ())
        self.assertEqual(kind_terms_in(PAIR), (TWO, TWO))
        self.assertEqual(kind_terms_in(EIGHT), (("flags", 2), ("reads", TWO, (7, 7))))
        self.assertEqual(kind_terms_in(("without", PAIR, 0)), (PAIR,))
        self.assertEqual(kind_terms_in(("reads", PAIR, (0, 0, 0, 0))), (PAIR,))

    def test_paths_by_other_means(self):
        for term, path in wrong_kind_terms():
            self.assertTrue(agree(slow_terms.told(slow_terms.kind_of, term), [path]), term)

    def test_by_other_means(self):
        told = {}
        random = Random(361)
        for _ in range(2500):
            term = any_kind_term(random, random.choice((1, 2, 2, 2, 3)))
            expected = slow_terms.told(slow_terms.kind_of, term)
            if isinstance(expected, list):
                self.refused(kind_of, (term,), BadTerm, path=expected[0])
                told[expected[0]] = True
            else:
                kind = kind_of(term)
                self.assertTrue(agree(kind, expected), term)
                self.assertIs(need_kind(kind), kind)
                self.assertTrue(joins(kind))
                self.assertGreater(len(coming(kind)), 1)
        self.assertLessEqual({(), (1,), (2,)}, set(told))


class TestRingTerms(Refusals, unittest.TestCase):
    def test_refusals(self):
        for function in (need_ring_term, ring_of, ring_terms_in):
            self.all_refusals(function, params("net", "ring_term"))

    def test_the_term_itself_is_told(self):
        for term in RING_TERMS:
            self.assertIs(need_ring_term(NET, term), term)

    def test_by_hand(self):
        whole, part = (STRAIGHT, ALL), (CROSS, (0, 2))
        self.assertEqual(ring_of(NET, ONE), (whole,))
        self.assertEqual(ring_of(NET, ROUND_TERM), (part,))
        self.assertEqual(ring_of(NET, THREE), (whole, part, whole))
        self.assertEqual(ring_of(NET, ("times", ("then", ONE, ROUND_TERM), 3)), (whole, part) * 3)
        self.assertEqual(ring_of(NET, ("turn", THREE, 1)), (part, whole, whole))
        self.assertEqual(ring_of(NET, ("turn", THREE, 5)), (whole, whole, part))
        self.assertEqual(ring_of(NET, ("turn", THREE, 3)), (whole, part, whole))
        self.assertEqual(ring_of(NET, ("but", THREE, 2)), ((STRAIGHT, (0, 1, 3)), (CROSS, (0,)), (STRAIGHT, (0, 1, 3))))
        self.assertEqual(ring_of(NET, ("but", ROUND_TERM, 1)), (part,))
        self.assertEqual(ring_of(NET, ("both", ROUND_TERM, ("round", CROSS, (1, 2)))), ((CROSS, (0, 1, 2)),))
        self.assertEqual(ring_of(NET, ("but", ("but", ROUND_TERM, 0), 2)), ((CROSS, ()),))
        self.assertEqual(len(ring_of(NET, ("times", ONE, 6))), 6)
        self.refused(ring_of, (NET, ("then", ("times", ONE, 6), ONE)), BadTerm, path=())
        self.refused(ring_of, (NET, ("both", ONE, ROUND_TERM)), BadTerm, path=())
        self.refused(ring_of, (NET, ("both", ONE, ("times", ONE, 2))), BadTerm, path=())

    def test_terms_in_it(self):
        self.assertEqual(ring_terms_in(NET, ONE), ())
        self.assertEqual(ring_terms_in(NET, ROUND_TERM), ())
        self.assertEqual(ring_terms_in(NET, TWELVE), TWELVE[1:])
        self.assertEqual(ring_terms_in(NET, ("times", THREE, 2)), (THREE,))
        self.assertEqual(ring_terms_in(NET, ("but", THREE, 2)), (THREE,))

    def test_paths_by_other_means(self):
        for term, path in wrong_ring_terms():
            self.assertTrue(agree(slow_terms.told(slow_terms.ring_of, NET, term), [path]), term)

    def test_by_other_means(self):
        told = {}
        random = Random(362)
        for _ in range(1500):
            net = random.choice((NET, (1, ()), nets_samples.random_net(random, 2), (3, ())))
            pool = [random_settings(random, net) for _ in range(random.choice((1, 1, 2)))]
            term = any_ring_term(random, net, pool, random.choice((1, 2, 3, 4, 4, 5)))
            expected = slow_terms.told(slow_terms.ring_of, net, term)
            if isinstance(expected, list):
                self.refused(ring_of, (net, term), BadTerm, path=expected[0])
                told[expected[0]] = True
            else:
                self.assertTrue(agree(ring_of(net, term), expected), term)
                self.assertIs(need_ring_term(net, term), term)
        self.assertGreaterEqual(len(told), 6)

    def test_delays(self):
        told = {}
        random = Random(363)
        for _ in range(150):
            net = nets_samples.random_net(random, random.choice((1, 2, 2)))
            term = good_ring_term(random, net)
            ring = ring_of(net, term)
            least = delay(net, ((), ring), ())
            for many in range(6):
                self.assertEqual(delay(net, ((), ring_of(net, ("turn", ring_term(ring), many))), ()), least)
                if (many + 1) * len(ring) <= 6:
                    self.assertEqual(delay(net, ((), ring * (many + 1)), ()), least)
            lesser = delay(net, ((), ring_of(net, ("but", ring_term(ring), 0))), ())
            self.assertTrue(lesser is None or lesser >= least)
            kind = kind_of(random.choice(some_kind_terms(364, 20)))
            relay = (net, kind, CLEAR[:len(coming(kind))], 2, 4, ((), ring))
            self.assertEqual(settles(relay, ()), least)
            told[least] = True
        self.assertGreaterEqual(len(told), 4)

    def test_great_nets(self):
        settings = ((0,) * 4,) * 3
        self.assertEqual(ring_of(OMEGA, ("times", ("all", settings), 2)), ((settings, tuple(range(8))),) * 2)
        self.refused(ring_of, (OMEGA, ONE), BadTerm, path=())


def ring_term(ring):
    """A ring term for a ring, of one word for each round and one less."""
    term = ("round", *ring[0])
    for one in ring[1:]:
        term = ("then", term, ("round", *one))
    # A row of six rounds would be too deep with one word more, so half of them stand on each side.
    if len(ring) > 3:
        term = ("then", ring_term(ring[:3]), ring_term(ring[3:]))
    return term


if __name__ == "__main__":
    unittest.main()
