"""What shows what is read, states that are read alike, the least kind, lots that are enough."""

import unittest
from random import Random

from alikeagain.joins import joins
from alikeagain.kinds import coming, need_kind
from alikeagain.showing import come_alike, enough_lots, heard_alike, least_kind, showing

from tests import slow
from tests.kind_samples import CROWN, HALF, KIND, SINGLE, flags, greatest, joining_kinds, params
from tests.refusals import Refusals
from tests.test_telling import some_stands


def reading(kind, readings):
    """A kind with other integers for READ."""
    return (*kind[:3], readings)


class TestShowing(Refusals, unittest.TestCase):
    def test_refusals(self):
        for function in (showing, heard_alike, come_alike, least_kind):
            self.all_refusals(function, params("kind", joins=True))
        self.all_refusals(enough_lots, params("kind", "stand", joins=True))

    def test_showing_by_hand(self):
        self.assertEqual(showing(SINGLE), (0,))
        self.assertEqual(showing(KIND), (2,))
        self.assertEqual(showing(greatest(5)), (4,))
        self.assertEqual(showing(reading(greatest(5), (0, 1, 1, 1, 1))), (1, 2, 3, 4))
        self.assertEqual(showing(reading(greatest(5), (1, 0, 1, 1, 1))), (2, 3, 4))
        self.assertEqual(showing(reading(flags(2), (0, 1, 0, 1))), (1, 3))
        # What no state that comes is at most does not matter.
        self.assertEqual(showing(reading(HALF, (5, 1, 5, 2, 5, 3, 5, 4))), (0, 2, 4, 6))

    def test_alike_by_hand(self):
        self.assertEqual(heard_alike(SINGLE), ((0,),))
        self.assertEqual(come_alike(SINGLE), ((0,),))
        self.assertEqual(heard_alike(reading(HALF, (5,) * 8)), ((0, 2, 4, 6),))
        # The last state alone is read otherwise: hearing does not part the others, counting does.
        late = reading(greatest(5), (0, 0, 0, 0, 1))
        self.assertEqual(heard_alike(late), ((0, 1, 2, 3), (4,)))
        self.assertEqual(come_alike(late), ((0,), (1,), (2,), (3,), (4,)))
        # Hearing parts 1 and 2: with 2 both flags are up.
        both = reading(flags(2), (0, 0, 0, 1))
        self.assertEqual(heard_alike(both), ((0,), (1,), (2,), (3,)))
        one = reading(flags(2), (0, 1, 0, 1))
        self.assertEqual(heard_alike(one), ((0, 2), (1, 3)))
        self.assertEqual(come_alike(one), ((0, 2), (1, 3)))

    def test_least_kind_by_hand(self):
        self.assertEqual(least_kind(SINGLE), SINGLE)
        self.assertEqual(least_kind(greatest(8)), greatest(8))
        one = reading(flags(2), (0, 1, 0, 1))
        self.assertEqual(least_kind(one), (0, ((1, 1), (0, 1)), ((0, 1), (1, 1)), (0, 1)))
        self.assertEqual(least_kind(reading(HALF, (7,) * 8)), (0, ((0,), (0,)), ((0,),), (7,)))
        # START is 1, its lot is numbered behind that of 0.
        self.assertEqual(least_kind(KIND), (1, ((2, 2, 2), (0, 0, 2)), ((0, 0, 2), (0, 1, 2), (2, 2, 2)), (5, 0, 9)))

    def test_alike_by_all_pairs(self):
        told = {}
        for kind in self.read_kinds(111, 80):
            states = slow.close(kind)
            shown = tuple(state for state in states
                          if all(kind[3][other] == kind[3][state] for other in states if slow.at_most(kind, state, other)))
            self.assertEqual(showing(kind), shown)
            heard, whole = heard_alike(kind), come_alike(kind)
            for lots in (heard, whole):
                self.assertEqual(tuple(sorted(state for lot in lots for state in lot)), states)
                self.assertEqual(lots, tuple(sorted(tuple(sorted(lot)) for lot in lots)))
            for one in states:
                for other in states:
                    self.assertIs(any(one in lot and other in lot for lot in heard), slow.heard_alike(kind, one, other))
                    self.assertIs(any(one in lot and other in lot for lot in whole), slow.come_alike(kind, one, other))
            told[len(heard) < len(whole), len(whole) < len(states)] = True
        self.assertEqual(len(told), 4)

    def read_kinds(self, seed, many):
        """Kinds that join, with few unlike integers that are read."""
        random = Random(seed)
        for kind in joining_kinds(seed, many):
            yield kind
            yield reading(kind, tuple(random.choice((0, 0, 0, 1)) for _ in kind[3]))

    def test_the_least_kind_goes_with_the_kind(self):
        for kind in self.read_kinds(112, 60):
            least = least_kind(kind)
            self.assertIs(need_kind(least), least)
            self.assertTrue(joins(least))
            lots = come_alike(kind)
            self.assertEqual(coming(least), tuple(range(len(lots))))
            number = {state: at for at, lot in enumerate(lots) for state in lot}
            self.assertEqual(least[0], number[kind[0]])
            self.assertEqual(len(least[1]), len(kind[1]))
            for one in slow.close(kind):
                self.assertEqual(least[3][number[one]], kind[3][one])
                for row, lesser in zip(kind[1], least[1]):
                    self.assertEqual(number[row[one]], lesser[number[one]])
                for other in slow.close(kind):
                    self.assertEqual(number[kind[2][one][other]], least[2][number[one]][number[other]])
            self.assertEqual(least_kind(least), least)

    def test_enough_lots_by_hand(self):
        first = reading(flags(2), (0, 1, 0, 1))
        self.assertEqual(enough_lots(first, (0, 2, 0)), ())
        self.assertEqual(enough_lots(first, (0, 1, 3)), ((1,), (2,)))
        # Of one state alone nothing has to be asked.
        self.assertEqual(enough_lots(SINGLE, (0, 0)), ((),))
        self.assertEqual(enough_lots(reading(greatest(3), (4, 4, 4)), (0, 1, 2)), ((),))
        self.assertEqual(enough_lots(flags(3), (1, 2, 4) * 4)[:2], ((0, 1, 2), (0, 1, 5)))
        self.assertEqual(len(enough_lots(flags(3), (1, 2, 4) * 4)), 64)
        self.assertEqual(enough_lots(CROWN, (4,)), ((0,),))
        self.assertEqual(enough_lots(CROWN, (3,)), ())

    def test_enough_lots_by_all_lots(self):
        random = Random(113)
        told = {}
        for kind in self.read_kinds(114, 40):
            shown = showing(kind)
            for stand in some_stands(kind, random, 3):
                lots = [lot for lot in slow.lots(len(stand))
                        if slow.joined(kind, [stand[station] for station in lot]) in shown]
                least = tuple(sorted(lot for lot in lots if not any(set(other) < set(lot) for other in lots)))
                self.assertEqual(enough_lots(kind, stand), least)
                told[least if len(least) < 2 and least in ((), ((),)) else "other"] = True
                for lot in lots:
                    state = slow.joined(kind, [stand[station] for station in lot])
                    self.assertEqual(kind[3][state], kind[3][slow.joined(kind, stand)])
        self.assertEqual(len(told), 3)


if __name__ == "__main__":
    unittest.main()
