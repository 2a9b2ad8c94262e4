"""The order of a kind that joins: joins, bricks, chains, breadth."""

import unittest
from itertools import product

from alikeagain.errors import BadKind, BadState
from alikeagain.order import below, breadth, bricks, bricks_of, height, joined, longest_chain, top

from tests import slow
from tests.kind_samples import CROWN, KIND, SINGLE, flags, greatest, joining_kinds, params
from tests.refusals import Refusals


class TestOrder(Refusals, unittest.TestCase):
    def test_refusals(self):
        for function in (below, top, bricks, height, breadth, longest_chain):
            self.all_refusals(function, params("kind", joins=True))
        self.all_refusals(joined, params("kind", "states", joins=True))
        self.all_refusals(bricks_of, params("kind", "state", joins=True))

    def test_the_first_broken_rule_is_told(self):
        kind = (0, ((1, 2, 0),), ((1, 2, 0), (2, 0, 0), (1, 1, 1)), (0, 0, 0))
        twice = (0, ((1, 1, 2),), ((0, 1, 2), (1, 2, 1), (2, 2, 2)), (0, 1, 2))
        self.assertEqual(slow.broken(twice, slow.close(twice))[0], "twice")
        for function in (below, top, bricks, height, breadth, longest_chain):
            self.refused(function, (kind,), BadKind, place="start")
            self.refused(function, (twice,), BadKind, place="twice")
        self.refused(joined, (kind, None), BadKind, place="start")
        self.refused(bricks_of, (kind, None), BadKind, place="start")

    def test_by_hand(self):
        self.assertEqual(below(SINGLE), ())
        self.assertEqual(below(KIND), ((0, 2), (1, 0), (1, 2)))
        self.assertEqual(below(flags(2)), ((0, 1), (0, 2), (0, 3), (1, 3), (2, 3)))
        self.assertEqual([top(kind) for kind in (SINGLE, KIND, CROWN, flags(3))], [0, 2, 4, 7])
        self.assertEqual(bricks(SINGLE), ())
        self.assertEqual(bricks(KIND), (0, 2))
        self.assertEqual(bricks(CROWN), (1, 2, 4))
        self.assertEqual(bricks(flags(3)), (1, 2, 4))
        self.assertEqual(bricks_of(CROWN, 3), (1, 2))
        self.assertEqual(bricks_of(CROWN, 4), (1, 2, 4))
        self.assertEqual(bricks_of(CROWN, 0), ())
        self.assertEqual([height(kind) for kind in (SINGLE, KIND, CROWN, flags(3), greatest(8))], [1, 3, 4, 4, 8])
        self.assertEqual([breadth(kind) for kind in (SINGLE, KIND, CROWN, flags(3), greatest(8))], [0, 1, 2, 3, 1])
        self.assertEqual(longest_chain(SINGLE), (0,))
        self.assertEqual(longest_chain(KIND), (1, 0, 2))
        self.assertEqual(longest_chain(CROWN), (0, 1, 3, 4))
        self.assertEqual(longest_chain(flags(3)), (0, 1, 3, 7))

    def test_joined(self):
        self.assertEqual(joined(KIND, ()), 1)
        self.assertEqual(joined(KIND, (0,)), 0)
        self.assertEqual(joined(flags(3), (1, 4)), 5)
        self.assertEqual(joined(flags(3), (2,) * 59 + (1,)), 3)
        self.refused(joined, (flags(3), (2,) * 61), BadState, value=(2,) * 61)
        self.refused(joined, (flags(3), (2,) * 60 + (8,)), BadState, value=(2,) * 60 + (8,))

    def test_what_all_states_tell(self):
        for kind in joining_kinds(81, 100):
            states = slow.close(kind)
            expected = tuple((one, other) for one, other in product(states, repeat=2)
                             if one != other and slow.at_most(kind, one, other))
            self.assertEqual(below(kind), expected)
            self.assertEqual(top(kind), slow.joined(kind, states))
            told = []
            for state in states:
                others = [other for other in states if other != state and slow.at_most(kind, other, state)]
                if slow.joined(kind, others) != state:
                    told.append(state)
            self.assertEqual(bricks(kind), tuple(told))
            for state in states:
                under = tuple(brick for brick in told if slow.at_most(kind, brick, state))
                self.assertEqual(bricks_of(kind, state), under)
                self.assertEqual(joined(kind, under), state)
            for row in product(states, repeat=min(3, 7 - len(states)) if len(states) < 6 else 1):
                self.assertEqual(joined(kind, row), slow.joined(kind, row))

    def test_chains_and_breadth_by_going_through_all(self):
        for kind in [kind for kind in joining_kinds(82, 60) if len(slow.close(kind)) < 7]:
            chains = slow.all_chains(kind)
            most = max(map(len, chains))
            self.assertEqual(height(kind), most)
            self.assertEqual(longest_chain(kind), min(chain for chain in chains if len(chain) == most))
            self.assertEqual(breadth(kind), slow.breadth(kind))

    def test_kinds_of_eight_states(self):
        for kind in (flags(3), greatest(8)):
            self.assertEqual(breadth(kind), slow.breadth(kind))


if __name__ == "__main__":
    unittest.main()
