"""What has been heard of, and whether only that matters."""

import unittest
from itertools import permutations
from random import Random

from alikeagain.errors import BadNumber, BadPaper
from alikeagain.hearing import check_hearing, does_only_that_matter, heard, hearing_paper

from tests import slow
from tests.kind_samples import BREAKING, CROWN, KIND, KINDS, NO_TURN, NO_TWICE, SINGLE, flags, greatest, params
from tests.kind_samples import random_kind, some_kinds
from tests.refusals import NO_NUMBERS, NO_TUPLES, Refusals, at_place, each, otherwise

ONE = (((0, 1),), 0)
NOT_FORMS = NO_TUPLES + (
    (), ("same",), ("same", (), ()), ["same", ()], ("unlike", ()), ("unlike", (0, 1), ONE), ("same", (0, 1), ONE, ONE),
    ("unlike", (0, 1), ONE, ONE, ()), ["unlike", (0, 1), ONE, ONE], ("Same", ()), (b"same", ()), ("", ()), ((), ()),
) + tuple((value, ()) for value in NO_TUPLES) + tuple((value, (0, 1), ONE, ONE) for value in NO_TUPLES)
STEPS = ((0, 1), (4, 0), (1, 3))
NO_STEPS = NO_TUPLES + (
    list(STEPS), ((0, 1),) * 401, ((0, 0),), ((0, 5),), ((-1, 0),), ((0,),), ((0, 1, 2),), ([0, 1],), (0, 1), ((),),
    ((10 ** 999, 0),), (*STEPS, (4, 4)),
) + tuple((*STEPS, value) for value in NO_TUPLES) + tuple((*STEPS, (value, 2)) for value in NO_NUMBERS) \
    + tuple((*STEPS, (2, value)) for value in NO_NUMBERS)


class TestHearing(Refusals, unittest.TestCase):
    def test_refusals(self):
        self.all_refusals(does_only_that_matter, params("kind"))
        self.all_refusals(hearing_paper, params("kind"))
        steps = ("steps", STEPS, each(NO_STEPS, BadNumber, "value"))
        self.all_refusals(heard, params("kind", "stand") + [steps])
        wrongs = at_place(NOT_FORMS, BadPaper, "form", "word")
        wrongs += at_place([("same", value) for value in NO_TUPLES + ((), (0, 2), (2, 1, 0))], BadPaper, "same", "word")
        wrongs += at_place([("unlike", value, ONE, ONE) for value in NO_TUPLES], BadPaper, "unlike", "word")
        wrongs += at_place([("unlike", (0, 1), value, ONE) for value in NO_TUPLES], BadPaper, "unlike", "word")
        wrongs += at_place([("unlike", (0, 1), ONE, value) for value in NO_TUPLES], BadPaper, "unlike", "word")
        self.all_refusals(check_hearing, params("kind") + [("paper", ("same", (0, 1, 2)), wrongs)])

    def test_heard_by_hand(self):
        self.assertEqual(heard(KIND, (2,), ()), ((2, (0,)),))
        self.assertEqual(heard(greatest(4), (0, 3, 1), ()), ((0, (0,)), (3, (1,)), (1, (2,))))
        self.assertEqual(heard(greatest(4), (0, 3, 1), ((0, 2), (2, 1))), ((1, (0, 2)), (3, (1,)), (3, (1, 2))))
        self.assertEqual(heard(greatest(4), (0, 3, 1), ((2, 1), (0, 2))), ((3, (0, 1, 2)), (3, (1,)), (3, (1, 2))))
        self.assertEqual(heard(NO_TURN, (1, 2), ((0, 1),)), ((1, (0, 1)), (2, (1,))))
        self.assertEqual(heard(NO_TURN, (1, 2), ((1, 0),)), ((1, (0,)), (2, (0, 1))))

    def test_stands_of_one_and_of_twelve(self):
        self.refused(heard, (KIND, (2,), ((0, 0),)), BadNumber, value=((0, 0),))
        self.refused(heard, (KIND, (2,), ((0, 1),)), BadNumber, value=((0, 1),))
        stand = (0, 1, 2) * 4
        steps = tuple((number, number + 1) for number in range(10, -1, -1))
        self.assertEqual(heard(KIND, stand, steps)[0], (2, tuple(range(12))))
        self.assertEqual(heard(KIND, stand, ((11, 0),))[11], (2, (0, 11)))
        self.refused(heard, (KIND, stand, ((12, 0),)), BadNumber, value=((12, 0),))

    def test_four_hundred_steps(self):
        random = Random(71)
        for kind in KINDS:
            stand = tuple(random.choice(slow.close(kind)) for _ in range(random.randint(2, 12)))
            pairs = list(permutations(range(len(stand)), 2))
            steps = tuple(random.choice(pairs) for _ in range(400))
            for many in (0, 1, 2, 5, 10, 400):
                states, known = slow.run_steps(kind, stand, steps[:many])
                expected = tuple((states[number], tuple(sorted(known[number]))) for number in range(len(stand)))
                self.assertEqual(heard(kind, stand, steps[:many]), expected)
            self.refused(heard, (kind, stand, steps + steps[:1]), BadNumber, value=steps + steps[:1])

    def test_by_hand(self):
        for rule, kind in BREAKING.items():
            self.assertIs(does_only_that_matter(kind), rule == "start")
        for kind in (KIND, SINGLE, CROWN, flags(2), greatest(8)):
            self.assertIs(does_only_that_matter(kind), True)
        # Each one becomes what the other one was: it breaks "again" in no way, but "turn".
        self.assertIs(does_only_that_matter((0, ((1, 1),), ((0, 1), (0, 1)), (0, 0))), False)

    def test_what_all_states_tell(self):
        for kind in some_kinds(72, 150):
            states = slow.close(kind)
            self.assertIs(does_only_that_matter(kind), not slow.broken(kind, states, slow.HEARING_RULES))
            if not slow.broken(kind, states):
                self.assertIs(does_only_that_matter(kind), True)

    def test_what_all_steps_tell(self):
        random = Random(73)
        kinds = [kind for kind in some_kinds(74, 12) if len(slow.close(kind)) < 4]
        kinds += [random_kind(random, 2) for _ in range(40)]
        told = {True: 0, False: 0}
        for kind in kinds:
            # Two stations tell of "turn" and "again" by two steps, three of "group".
            expected = slow.steps_matter(kind, 2, 3) and slow.steps_matter(kind, 3, 3)
            self.assertIs(does_only_that_matter(kind), expected)
            told[expected] += 1
        self.assertGreater(min(told.values()), 5)

    def test_papers_hold(self):
        words = {"same": 0, "unlike": 0}
        for kind in some_kinds(75, 120):
            paper = hearing_paper(kind)
            word = "unlike" if slow.broken(kind, slow.close(kind), slow.HEARING_RULES) else "same"
            self.assertEqual(paper[0], word)
            self.assertEqual(check_hearing(kind, paper), word)
            self.assertEqual(slow.paper_on_hearing_of(kind, paper), word)
            words[word] += 1
        self.assertGreater(min(words.values()), 50)

    def test_papers_with_something_otherwise(self):
        for kind in KINDS[:9] + tuple(some_kinds(76, 12)[len(KINDS):]):
            paper = hearing_paper(kind)
            for other in otherwise(paper):
                told = slow.paper_on_hearing_of(kind, other)
                if isinstance(told, list):
                    self.refused(check_hearing, (kind, other), BadPaper, word=told[0])
                else:
                    self.assertEqual(check_hearing(kind, other), told)

    def test_papers_by_other_hands(self):
        turn = ("unlike", (1, 2), (((0, 1),), 0), (((1, 0),), 1))
        self.assertEqual(check_hearing(NO_TURN, turn), "unlike")
        more = ("unlike", (1, 2, 0), (((0, 1), (1, 2), (0, 1), (2, 0)), 0), (((1, 2), (1, 0), (1, 2), (1, 0)), 1))
        self.assertEqual(check_hearing(NO_TURN, more), "unlike")
        twice = ("unlike", (1, 1), ((), 0), (((0, 1), (0, 1)), 0))
        self.refused(check_hearing, (NO_TWICE, twice), BadPaper, word="unlike")
        for stand, one, other in (
            ((1, 2, 0, 0), turn[2], turn[3]), ((1,), ((), 0), ((), 0)), ((), ((), 0), ((), 0)), ((1, 3), turn[2], turn[3]),
            ((1, 2), (((0, 1),) * 5, 0), turn[3]), ((1, 2), turn[2], (((1, 0),) * 5, 1)), ((1, 2), ((), 0), turn[3]),
            ((1, 2), (((0, 1),), 2), turn[3]), ((1, 2), (((0, 1),), False), turn[3]), ((1, 2), turn[2], turn[2]),
            ((1, 2), (((0, 2),), 0), turn[3]), ((1, 1), turn[2], turn[3]), ((1, True), turn[2], turn[3]),
        ):
            self.refused(check_hearing, (NO_TURN, ("unlike", stand, one, other)), BadPaper, word="unlike")
        # More states than come, where these are closed and the rules hold on them.
        more = (0, ((0, 1),), ((0, 1), (1, 1)), (0, 0))
        self.assertEqual(check_hearing(more, ("same", (0,))), "same")
        self.assertEqual(check_hearing(more, ("same", (0, 1))), "same")
        self.refused(check_hearing, (more, ("same", (1,))), BadPaper, word="same")
        self.refused(check_hearing, (NO_TURN, ("same", (0, 1, 2))), BadPaper, word="same")
        # A state that does not come shows nothing.
        worse = (0, ((0, 1, 2),), ((0, 0, 0), (1, 1, 1), (2, 2, 2)), (0, 0, 0))
        self.refused(check_hearing, (worse, turn), BadPaper, word="unlike")
        self.assertEqual(check_hearing(worse, ("same", (0,))), "same")


if __name__ == "__main__":
    unittest.main()
