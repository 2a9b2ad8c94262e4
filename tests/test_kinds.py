"""Kinds: states that come, updates, merging, makings."""

import unittest

from alikeagain.errors import BadPaper
from alikeagain.kinds import coming, fewest_rows, is_making, made, making_of, merged, need_kind, need_state, read
from alikeagain.kinds import trimmed, updated

from tests import slow
from tests.kind_samples import HALF, KIND, KINDS, SINGLE, flags, greatest, params, some_kinds
from tests.refusals import NO_NUMBERS, NO_TUPLES, Refusals, at_place, otherwise

MAKING = (("do", -1, 0), ("do", 0, 1), ("hear", 1, -1), ("hear", -1, 2), ("do", -1, 1))
NO_MAKINGS = NO_TUPLES + (
    list(MAKING), MAKING * 6 + MAKING[:1], (("do", -1, 0),) * 31, (("do", 0, 0),), (("do", -2, 0),), (("do", -1, 2),),
    (("do", -1, -1),), (("hear", -1, 0),), (("hear", 0, -1),), (("hear", -1, -2),), (("do", -1),), (("do", -1, 0, 0),),
    (["do", -1, 0],), ("do", -1, 0), (("Do", -1, 0),), (("", -1, 0),), MAKING + (("do", 5, 0),), MAKING + (("do", 4, 2),),
    MAKING + (("hear", 4, 5),), MAKING + (("hear", 5, 4),), (("do", 10 ** 999, 0),), (("do", -1, 0), ("do", True, 0)),
) + tuple((*MAKING, value) for value in NO_TUPLES) + tuple((*MAKING, (value, -1, -1)) for value in NO_TUPLES) \
    + tuple((*MAKING, ("do", value, 0)) for value in NO_NUMBERS) \
    + tuple((*MAKING, ("do", 0, value)) for value in NO_NUMBERS) \
    + tuple((*MAKING, ("hear", value, 0)) for value in NO_NUMBERS) \
    + tuple((*MAKING, ("hear", 0, value)) for value in NO_NUMBERS)


class TestKinds(Refusals, unittest.TestCase):
    def test_refusals(self):
        for function, names in (
            (need_kind, ("kind",)), (need_state, ("kind", "state")), (coming, ("kind",)),
            (merged, ("kind", "one", "other")), (updated, ("kind", "state", "update")), (read, ("kind", "state")),
            (fewest_rows, ("kind", "state")), (making_of, ("kind", "state")), (trimmed, ("kind",)),
        ):
            self.all_refusals(function, params(*names))
        self.all_refusals(is_making, params("kind") + [("value", MAKING, [])])
        making = ("making", MAKING, at_place(NO_MAKINGS, BadPaper, "making", "word"))
        self.all_refusals(made, params("kind") + [making])

    def test_what_is_told_itself(self):
        for kind in KINDS:
            self.assertIs(need_kind(kind), kind)
            for state in slow.close(kind):
                self.assertEqual(need_state(kind, state), state)

    def test_by_hand(self):
        self.assertEqual(coming(KIND), (0, 1, 2))
        self.assertEqual(coming(SINGLE), (0,))
        self.assertEqual(coming(greatest(8)), tuple(range(8)))
        self.assertEqual(coming(HALF), (0, 2, 4, 6))
        self.assertEqual(coming((2, ((0, 1, 2),), ((0, 1, 2),) * 3, (0, 0, 0))), (2,))
        self.assertEqual(merged(KIND, 1, 0), 0)
        self.assertEqual(merged(KIND, 0, 1), 0)
        self.assertEqual(merged(greatest(4), 1, 3), 3)
        # The first one hears: it matters which one does.
        self.assertEqual(merged((0, ((1, 1),), ((0, 1), (0, 1)), (0, 0)), 1, 0), 0)
        self.assertEqual(merged((0, ((1, 1),), ((0, 1), (0, 1)), (0, 0)), 0, 1), 1)
        self.assertEqual(updated(KIND, 1, 0), 2)
        self.assertEqual(updated(KIND, 1, 1), 0)
        self.assertEqual(updated(KIND, 0, 1), 0)
        self.assertEqual([read(KIND, state) for state in (0, 1, 2)], [5, 0, 9])

    def test_what_all_states_tell(self):
        for kind in some_kinds(51, 80):
            states = slow.close(kind)
            self.assertEqual(coming(kind), states)
            for one in states:
                self.assertEqual(read(kind, one), kind[3][one])
                for number, update in enumerate(kind[1]):
                    self.assertEqual(updated(kind, one, number), update[one])
                for other in states:
                    self.assertEqual(merged(kind, one, other), kind[2][one][other])

    def test_makings(self):
        self.assertIs(is_making(KIND, ()), True)
        self.assertEqual(made(KIND, ()), ())
        self.assertIs(is_making(KIND, MAKING), True)
        self.assertEqual(made(KIND, MAKING), (2, 2, 2, 2, 0))
        self.assertEqual(made(flags(3), (("do", -1, 1), ("do", -1, 2), ("hear", 0, 1), ("do", 2, 0))), (2, 4, 6, 7))
        self.assertEqual(len(made(KIND, MAKING * 6)), 30)
        for value in NO_MAKINGS:
            self.assertIs(is_making(KIND, value), False)

    def test_makings_with_something_otherwise(self):
        for kind in (KIND, SINGLE, flags(2)):
            for value in [MAKING] + otherwise(MAKING):
                states = slow.run_making(kind, value)
                self.assertIs(is_making(kind, value), states is not None)
                if states is not None:
                    self.assertEqual(made(kind, value), tuple(states[number] for number in range(len(value))))

    def test_hearing_oneself_and_start(self):
        kind = (0, ((1, 1, 2),), ((0, 1, 2), (0, 2, 2), (0, 1, 2)), (0, 0, 0))
        self.assertEqual(made(kind, (("hear", -1, -1), ("do", -1, 0), ("hear", 1, 1), ("hear", 2, -1))), (0, 1, 2, 0))

    def test_fewest_rows_by_hand(self):
        self.assertEqual(fewest_rows(KIND, 1), 0)
        self.assertEqual(making_of(KIND, 1), ())
        self.assertEqual([fewest_rows(greatest(8), state) for state in range(8)], list(range(8)))
        self.assertEqual([fewest_rows(flags(3), state) for state in range(8)], [0, 1, 1, 2, 1, 2, 2, 3])
        # 3 comes by hearing alone, of two states that both have to be made.
        kind = (0, ((1, 1, 2, 3), (2, 1, 2, 3)), ((0, 1, 2, 3), (1, 1, 3, 3), (2, 3, 2, 3), (3, 3, 3, 3)), (0,) * 4)
        self.assertEqual(fewest_rows(kind, 3), 3)

    def test_fewest_rows_by_all_makings(self):
        for kind in [kind for kind in some_kinds(52, 40) if len(slow.close(kind)) < 6]:
            for state in slow.close(kind):
                fewest = slow.rows_at_least(kind, state, 7)
                making = making_of(kind, state)
                self.assertEqual(fewest_rows(kind, state), fewest)
                self.assertEqual(len(making), fewest)
                self.assertEqual(slow.run_making(kind, making)[len(making) - 1], state)

    def test_makings_of_greater_kinds(self):
        for kind in some_kinds(53, 60):
            for state in slow.close(kind):
                making = making_of(kind, state)
                self.assertIs(is_making(kind, making), True)
                self.assertEqual(len(making), fewest_rows(kind, state))
                self.assertLess(len(making), len(kind[3]))
                self.assertEqual((kind[0], *made(kind, making))[-1], state)

    def test_trimmed(self):
        self.assertEqual(trimmed(KIND), (1, ((2, 2, 2), (0, 0, 2)), ((0, 0, 2), (0, 1, 2), (2, 2, 2)), (5, 0, 9)))
        self.assertEqual(trimmed(HALF), (0, flags(2)[1], flags(2)[2], (0, 1, 2, 3)))
        self.assertEqual(trimmed((2, ((0, 1, 2),), ((0, 1, 2),) * 3, (0, 0, 7))), (0, ((0,),), ((0,),), (7,)))
        for kind in some_kinds(54, 60):
            less = trimmed(kind)
            states = slow.close(kind)
            self.assertIs(need_kind(less), less)
            self.assertEqual(coming(less), tuple(range(len(states))))
            self.assertEqual(trimmed(less), less)
            self.assertEqual(states[less[0]], kind[0])
            for number, state in enumerate(states):
                self.assertEqual(less[3][number], kind[3][state])
                self.assertEqual([states[row[number]] for row in less[1]], [row[state] for row in kind[1]])
                for second, other in enumerate(states):
                    self.assertEqual(states[less[2][number][second]], kind[2][state][other])


if __name__ == "__main__":
    unittest.main()
