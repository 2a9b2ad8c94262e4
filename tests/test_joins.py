"""Joining: the four rules, papers, and lots of updates that are let."""

import unittest
from itertools import combinations

from alikeagain.errors import BadPaper
from alikeagain.joins import broken_rules, check_join, join_paper, joins, let_lots
from alikeagain.kinds import made

from tests import slow
from tests.kind_samples import BREAKING, CROWN, KIND, KINDS, NO_GROUP, NO_START, NO_TURN, NO_TWICE, SINGLE, flags, greatest
from tests.kind_samples import params, some_kinds
from tests.refusals import NO_NUMBERS, NO_TUPLES, Refusals, at_place, otherwise

NOT_FORMS = NO_TUPLES + (
    (), ("joins",), ("joins", (), ()), ["joins", ()], ("breaks", ()), ("breaks", (), "start"), ("joins", (), "start", ()),
    ("breaks", (), "start", (), ()), ["breaks", (), "start", (-1,)], ("Joins", ()), (b"joins", ()), ("", ()), ((), ()),
) + tuple((value, ()) for value in NO_TUPLES) + tuple((value, (), "start", (-1,)) for value in NO_TUPLES)


class TestJoins(Refusals, unittest.TestCase):
    def test_refusals(self):
        for function in (joins, broken_rules, join_paper, let_lots):
            self.all_refusals(function, params("kind"))
        wrongs = at_place(NOT_FORMS, BadPaper, "form", "word")
        wrongs += at_place([("joins", value) for value in NO_TUPLES + ((), (0, 2), (2, 1, 0))], BadPaper, "joins", "word")
        wrongs += at_place([("breaks", value, "start", (-1,)) for value in NO_TUPLES], BadPaper, "breaks", "word")
        wrongs += at_place([("breaks", (), value, (-1,)) for value in NO_TUPLES], BadPaper, "breaks", "word")
        wrongs += at_place([("breaks", (), "start", value) for value in NO_TUPLES], BadPaper, "breaks", "word")
        wrongs += at_place([("breaks", (), "start", (value,)) for value in NO_NUMBERS], BadPaper, "breaks", "word")
        self.all_refusals(check_join, params("kind") + [("paper", ("joins", (0, 1, 2)), wrongs)])

    def test_by_hand(self):
        for rule, kind in BREAKING.items():
            self.assertEqual(broken_rules(kind), (rule,))
            self.assertIs(joins(kind), False)
        for kind in (KIND, SINGLE, CROWN, flags(1), flags(2), flags(3)) + tuple(greatest(many) for many in range(1, 9)):
            self.assertEqual(broken_rules(kind), ())
            self.assertIs(joins(kind), True)
        # All at once, and "turn" alone where START alone does not come.
        kind = (0, ((1, 2, 0),), ((1, 2, 0), (2, 0, 0), (1, 1, 1)), (0, 0, 0))
        self.assertEqual(broken_rules(kind), ("start", "twice", "turn", "group"))
        self.assertEqual(broken_rules((0, ((0,),), ((0,),), (0,))), ())

    def test_what_all_states_tell(self):
        told = {True: 0, False: 0}
        for kind in some_kinds(61, 150):
            expected = slow.broken(kind, slow.close(kind))
            self.assertEqual(broken_rules(kind), expected)
            self.assertIs(joins(kind), not expected)
            told[not expected] += 1
        self.assertGreater(min(told.values()), 50)

    def test_papers_hold(self):
        for kind in some_kinds(62, 100):
            paper = join_paper(kind)
            word = "breaks" if slow.broken(kind, slow.close(kind)) else "joins"
            self.assertEqual(paper[0], word)
            self.assertEqual(check_join(kind, paper), word)
            self.assertEqual(slow.paper_on_joining(kind, paper), word)
            if word == "breaks":
                states = (*made(kind, paper[1]), kind[0])
                self.assertFalse(slow.holds(kind, paper[2], [states[place] for place in paper[3]]))

    def test_papers_with_something_otherwise(self):
        for kind in KINDS[:9] + tuple(some_kinds(63, 15)[len(KINDS):]):
            paper = join_paper(kind)
            for other in otherwise(paper):
                told = slow.paper_on_joining(kind, other)
                if isinstance(told, list):
                    self.refused(check_join, (kind, other), BadPaper, word=told[0])
                else:
                    self.assertEqual(check_join(kind, other), told)

    def test_papers_by_other_hands(self):
        # More states than come, where these are closed and the rules hold on them.
        more = (0, ((0, 1),), ((0, 1), (1, 1)), (0, 0))
        self.assertEqual(check_join(more, ("joins", (0,))), "joins")
        self.assertEqual(check_join(more, ("joins", (0, 1))), "joins")
        self.refused(check_join, (more, ("joins", (1,))), BadPaper, word="joins")
        worse = (0, ((0, 1),), ((0, 1), (0, 1)), (0, 0))
        self.assertEqual(check_join(worse, ("joins", (0,))), "joins")
        self.refused(check_join, (worse, ("joins", (0, 1))), BadPaper, word="joins")
        self.refused(check_join, (KIND, ("joins", (0, 1, 2, 3))), BadPaper, word="joins")
        self.refused(check_join, (greatest(3), ("joins", (0, 1))), BadPaper, word="joins")
        self.refused(check_join, (flags(2), ("joins", (0, 1, 2))), BadPaper, word="joins")
        # Rows behind the ones that matter, and all rows there may be.
        rows = (("do", -1, 0), ("do", 0, 0))
        self.assertEqual(check_join(NO_TURN, ("breaks", rows, "turn", (0, 1))), "breaks")
        self.assertEqual(check_join(NO_TURN, ("breaks", rows * 15, "turn", (1, 0))), "breaks")
        self.refused(check_join, (NO_TURN, ("breaks", rows * 16, "turn", (0, 1))), BadPaper, word="breaks")
        self.refused(check_join, (NO_TURN, ("breaks", rows, "turn", (-1, 1))), BadPaper, word="breaks")
        self.refused(check_join, (NO_TURN, ("breaks", rows, "again", (0, 1))), BadPaper, word="breaks")
        self.assertEqual(check_join(NO_TWICE, ("breaks", rows[:1], "twice", (0,))), "breaks")
        self.assertEqual(check_join(NO_START, ("breaks", rows[:1], "start", (0,))), "breaks")
        self.refused(check_join, (NO_START, ("breaks", rows[:1], "start", (-1,))), BadPaper, word="breaks")
        self.refused(check_join, (NO_START, ("joins", (0, 1))), BadPaper, word="joins")
        rows = (("do", -1, 0), ("do", 0, 0), ("do", 1, 0))
        self.assertEqual(check_join(NO_GROUP, ("breaks", rows, "group", (0, 1, 2))), "breaks")
        self.refused(check_join, (NO_GROUP, ("breaks", rows, "group", (0, 0, 0))), BadPaper, word="breaks")

    def test_a_rule_that_start_breaks_itself(self):
        kind = (0, ((0, 1),), ((1, 1), (1, 1)), (0, 0))
        paper = join_paper(kind)
        self.assertEqual(check_join(kind, paper), "breaks")
        self.assertEqual(check_join(kind, ("breaks", (), "start", (-1,))), "breaks")

    def test_a_break_of_states_with_longer_makings(self):
        # All rules hold but where one state, made by one row, meets another one, made by hearing.
        lots = (0, 1, 2, 4, 3, 5, 6, 7)
        updates = tuple(tuple(lots.index(lot | flag) for lot in lots) for flag in (1, 2, 4))
        merge = [[lots.index(one | other) for other in lots] for one in lots]
        merge[3][4] = 3
        kind = (0, updates, tuple(map(tuple, merge)), (0,) * 8)
        self.assertEqual(slow.broken(kind, slow.close(kind))[0], "turn")
        paper = join_paper(kind)
        self.assertEqual(paper[2], "turn")
        self.assertEqual([made(kind, paper[1])[place] for place in paper[3]], [3, 4])
        self.assertEqual(check_join(kind, paper), "breaks")

    def test_let_lots_by_hand(self):
        self.assertEqual(let_lots(flags(3)), ((0, 1, 2),))
        self.assertEqual(let_lots(KIND), ((0, 1),))
        # START itself breaks a rule: no lot is let, not even ().
        self.assertEqual(let_lots((0, ((0, 1),), ((1, 1), (1, 1)), (0, 0))), ())
        # Each update leads to a state that hears itself away, but START alone joins.
        self.assertEqual(let_lots((0, ((1, 1), (1, 0)), ((0, 1), (1, 0)), (0, 0))), ((),))
        # Each one alone leads to a chain, both together to states that do not turn.
        merge = ((0, 1, 2), (1, 1, 1), (2, 2, 2))
        self.assertEqual(let_lots((0, ((1, 1, 2), (2, 1, 2)), merge, (0, 0, 0))), ((0,), (1,)))
        kind = (0, ((1, 1, 2), (2, 1, 2), (0, 1, 2), (2, 1, 2)), merge, (0, 0, 0))
        self.assertEqual(let_lots(kind), ((0, 2), (1, 2, 3)))

    def test_let_lots_by_all_lots(self):
        told = {}
        for kind in some_kinds(64, 150):
            numbers = range(len(kind[1]))
            lots = [lot for many in range(len(kind[1]) + 1) for lot in combinations(numbers, many)]
            let = [lot for lot in lots if not slow.broken(kind, slow.close(kind, lot))]
            expected = tuple(sorted(lot for lot in let if not any(set(lot) < set(other) for other in let)))
            self.assertEqual(let_lots(kind), expected)
            told[len(expected)] = True
        self.assertIn(2, told)
        self.assertIn(0, told)


if __name__ == "__main__":
    unittest.main()
