"""Updates that rise, updates that add a state, papers on whether all add."""

import unittest
from itertools import product
from random import Random

from alikeagain.adding import add_paper, added, check_add, rises
from alikeagain.errors import BadPaper

from tests import slow
from tests.kind_samples import CROWN, HALF, KIND, SINGLE, flags, greatest, joining_kinds, params
from tests.refusals import NO_TUPLES, Refusals, otherwise

# The third update takes the second flag away, the fourth turns the first one about.
TAKING = (0, (*flags(2)[1], (0, 1, 0, 1), (1, 0, 3, 2)), *flags(2)[2:])


class TestAdding(Refusals, unittest.TestCase):
    def test_refusals(self):
        for function in (rises, added):
            self.all_refusals(function, params("kind", "update", joins=True))
        self.all_refusals(add_paper, params("kind", joins=True))
        forms = NO_TUPLES + ((), ("adds",), ("asks",), ("adds", (2, 0), ()), ("asks", ()), ("asks", (), 0, 0), (0, 0),
                             ("Adds", (2, 0)), (None, (), 0), ["adds", (2, 0)], ("asks", (2, 0)), ("adds", (), 0))
        wrongs = [(value, BadPaper, {"word": "form"}) for value in forms]
        wrongs += [(("adds", value), BadPaper, {"word": "adds"}) for value in NO_TUPLES + ((), (2,), (2, 0, 0), (2, False))]
        wrongs += [(("asks", value, 0), BadPaper, {"word": "asks"}) for value in NO_TUPLES + ((),)]
        wrongs += [(("asks", (), value), BadPaper, {"word": "asks"}) for value in NO_TUPLES + (2, -1, 10 ** 999)]
        self.all_refusals(check_add, params("kind", joins=True) + [("paper", ("adds", (2, 0)), wrongs)])

    def test_by_hand(self):
        self.assertTrue(rises(SINGLE, 0))
        self.assertEqual(added(SINGLE, 0), 0)
        self.assertEqual([added(flags(3), update) for update in range(3)], [1, 2, 4])
        self.assertEqual([added(HALF, update) for update in range(2)], [2, 4])
        self.assertEqual([added(KIND, update) for update in range(2)], [2, 0])
        self.assertEqual([added(greatest(many), 0) for many in (2, 3)], [1, None])
        self.assertTrue(rises(greatest(8), 0))
        self.assertEqual([rises(TAKING, update) for update in range(4)], [True, True, False, False])
        self.assertEqual([added(TAKING, update) for update in range(4)], [1, 2, None, None])
        self.assertEqual([rises(CROWN, update) for update in range(2)], [False, True])
        self.assertEqual([added(CROWN, update) for update in range(2)], [None, None])

    def test_by_all_states(self):
        told = {}
        for kind in joining_kinds(121, 150):
            states = slow.close(kind)
            for update, row in enumerate(kind[1]):
                up = all(slow.at_most(kind, state, row[state]) for state in states)
                self.assertIs(rises(kind, update), up)
                fits = [other for other in states if all(row[state] == kind[2][state][other] for state in states)]
                self.assertLessEqual(len(fits), 1)
                self.assertEqual(added(kind, update), fits[0] if fits else None)
                told[up, bool(fits)] = True
        self.assertEqual(len(told), 3)

    def test_papers_hold(self):
        told = {}
        for kind in joining_kinds(122, 100) + [TAKING]:
            paper = add_paper(kind)
            word = "asks" if None in [added(kind, update) for update in range(len(kind[1]))] else "adds"
            self.assertEqual(paper[0], word)
            self.assertEqual(check_add(kind, paper), word)
            self.assertEqual(slow.paper_on_adding(kind, paper), word)
            told[word] = True
        self.assertEqual(len(told), 2)

    def test_papers_with_something_otherwise(self):
        for kind in [SINGLE, TAKING, HALF] + joining_kinds(123, 25):
            for other in otherwise(add_paper(kind)):
                told = slow.paper_on_adding(kind, other)
                if isinstance(told, list):
                    self.refused(check_add, (kind, other), BadPaper, word=told[0])
                else:
                    self.assertEqual(check_add(kind, other), told)

    def test_papers_by_other_hands(self):
        kind = greatest(4)
        self.assertEqual(check_add(kind, ("asks", (("do", -1, 0),), 0)), "asks")
        self.assertEqual(check_add(kind, ("asks", (("do", -1, 0),) * 30, 0)), "asks")
        self.refused(check_add, (kind, ("asks", (("do", -1, 0),) * 31, 0)), BadPaper, word="asks")
        self.refused(check_add, (kind, ("asks", (), 0)), BadPaper, word="asks")
        self.refused(check_add, (kind, ("adds", (1,))), BadPaper, word="adds")
        # Of a making the last state alone counts.
        rows = (("do", -1, 0), ("hear", -1, -1))
        self.refused(check_add, (kind, ("asks", rows, 0)), BadPaper, word="asks")
        self.assertEqual(check_add(kind, ("asks", rows[::-1], 0)), "asks")
        self.refused(check_add, (flags(2), ("asks", (("do", -1, 0),), 1)), BadPaper, word="asks")
        self.assertEqual(check_add(TAKING, ("asks", (("do", -1, 1),), 2)), "asks")
        self.refused(check_add, (TAKING, ("asks", (("do", -1, 0),), 2)), BadPaper, word="asks")
        # A state that is no adding of START's own, and one that does not come.
        self.refused(check_add, (flags(2), ("adds", (1, 3))), BadPaper, word="adds")
        self.refused(check_add, (HALF, ("adds", (3, 4))), BadPaper, word="adds")

    def test_copies_with_the_same_updates_are_the_same(self):
        random = Random(124)
        for kind in joining_kinds(125, 40):
            adds = add_paper(kind)[0] == "adds"
            told = {}
            for rows in product(range(len(kind[1])), repeat=3):
                state = kind[0]
                for update in rows:
                    state = kind[1][update][state]
                    if random.random() < 0.5:
                        state = kind[2][state][state]
                told.setdefault(frozenset(rows), set()).add(state)
            if adds:
                self.assertTrue(all(len(states) == 1 for states in told.values()))


if __name__ == "__main__":
    unittest.main()
