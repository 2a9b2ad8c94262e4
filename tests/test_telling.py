"""Lots of stations that tell a stand, and how many stands have a join."""

import unittest
from itertools import product
from random import Random

from alikeagain.errors import BadNumber, BadStand, BadState
from alikeagain.order import breadth
from alikeagain.telling import does_tell, fewest_lot, least_lots, needed, stand_count, stand_join

from tests import slow
from tests.kind_samples import CROWN, HALF, KIND, SINGLE, flags, greatest, joining_kinds, params
from tests.refusals import Refusals


def some_stands(kind, random, many):
    """Stands of one to six stations of a kind."""
    states = slow.close(kind)
    return [tuple(random.choice(states) for _ in range(random.randint(1, 6))) for _ in range(many)]


class TestTelling(Refusals, unittest.TestCase):
    def test_refusals(self):
        for function in (stand_join, least_lots, fewest_lot, needed):
            self.all_refusals(function, params("kind", "stand", joins=True))
        self.all_refusals(does_tell, params("kind", "stand", "lot", joins=True))
        self.all_refusals(stand_count, params("kind", "many", "state", joins=True))
        self.refused(stand_count, (KIND, 1001, 3), BadNumber, value=1001)
        self.refused(stand_count, (KIND, 1000, 3), BadState, value=3)
        self.refused(stand_join, (HALF, (1,)), BadStand, value=(1,))

    def test_by_hand(self):
        self.assertEqual(stand_join(flags(3), (1, 4, 1)), 5)
        self.assertEqual(stand_join(KIND, (1,)), 1)
        self.assertEqual(least_lots(flags(3), (1, 2, 3, 0)), ((0, 1), (2,)))
        self.assertEqual(fewest_lot(flags(3), (1, 2, 3, 0)), (2,))
        self.assertEqual(needed(flags(3), (1, 2, 3, 0)), ())
        self.assertEqual(needed(flags(3), (1, 2, 3, 4)), (3,))
        self.assertEqual(least_lots(flags(3), (1, 2, 4, 6, 5)), ((0, 1, 2), (0, 3), (1, 4), (3, 4)))
        self.assertEqual(fewest_lot(flags(3), (1, 2, 4, 6, 5)), (0, 3))
        self.assertEqual(least_lots(CROWN, (1, 2, 3, 4, 0)), ((3,),))
        self.assertEqual(needed(CROWN, (1, 2, 1, 4, 0)), (3,))
        self.assertEqual(needed(CROWN, (1, 2, 1, 0)), (1,))
        self.assertTrue(does_tell(CROWN, (1, 2, 1, 0), (1, 2)))
        self.assertFalse(does_tell(CROWN, (1, 2, 1, 0), (0, 2, 3)))

    def test_the_empty_lot_tells_where_all_are_start(self):
        for kind in (SINGLE, KIND, flags(2)):
            for many in (1, 12):
                stand = (kind[0],) * many
                self.assertEqual(least_lots(kind, stand), ((),))
                self.assertEqual(fewest_lot(kind, stand), ())
                self.assertEqual(needed(kind, stand), ())
                self.assertTrue(does_tell(kind, stand, ()))
        self.assertFalse(does_tell(KIND, (1, 0), ()))

    def test_one_and_twelve_stations(self):
        self.assertEqual(least_lots(KIND, (2,)), ((0,),))
        self.assertEqual(needed(KIND, (2,)), (0,))
        stand = (1, 2, 4) * 4
        self.assertEqual(stand_join(flags(3), stand), 7)
        expected = sorted(tuple(sorted(lot)) for lot in product((0, 3, 6, 9), (1, 4, 7, 10), (2, 5, 8, 11)))
        self.assertEqual(least_lots(flags(3), stand), tuple(expected))
        self.assertEqual(fewest_lot(flags(3), stand), (0, 1, 2))
        self.assertTrue(does_tell(flags(3), stand, tuple(range(12))))
        self.assertEqual(needed(flags(3), (0,) * 11 + (7,)), (11,))

    def test_by_all_lots(self):
        random = Random(101)
        for kind in joining_kinds(102, 40):
            for stand in some_stands(kind, random, 4):
                lots = [lot for lot in slow.lots(len(stand)) if slow.tells(kind, stand, lot)]
                least = [lot for lot in lots if not any(set(other) < set(lot) for other in lots)]
                self.assertEqual(stand_join(kind, stand), slow.joined(kind, stand))
                self.assertEqual(least_lots(kind, stand), tuple(sorted(least)))
                fewest = min(map(len, lots))
                self.assertEqual(fewest_lot(kind, stand), min(lot for lot in lots if len(lot) == fewest))
                self.assertLessEqual(fewest, breadth(kind))
                common = [station for station in range(len(stand)) if all(station in lot for lot in lots)]
                self.assertEqual(needed(kind, stand), tuple(common))
                for lot in slow.lots(len(stand)):
                    self.assertIs(does_tell(kind, stand, lot), lot in lots)

    def test_some_stand_wants_as_many_as_the_breadth(self):
        for kind in joining_kinds(103, 20):
            states = slow.close(kind)
            most = max(len(fewest_lot(kind, stand)) for stand in product(states, repeat=min(3, len(states))))
            self.assertEqual(most, breadth(kind))

    def test_counts_by_all_stands(self):
        for kind in joining_kinds(104, 40):
            states = slow.close(kind)
            for many in (1, 2, 3, 4):
                if len(states) ** many < 700:
                    told = [slow.joined(kind, stand) for stand in product(states, repeat=many)]
                    for state in states:
                        self.assertEqual(stand_count(kind, many, state), told.count(state))

    def test_counts_of_many_stations(self):
        self.assertEqual(stand_count(SINGLE, 1000, 0), 1)
        self.assertEqual(stand_count(greatest(8), 1000, 7), 8 ** 1000 - 7 ** 1000)
        self.assertEqual(stand_count(flags(2), 1000, 3), 4 ** 1000 - 2 * 2 ** 1000 + 1)
        self.assertEqual(stand_count(KIND, 1000, 1), 1)
        for kind in joining_kinds(105, 20):
            states = slow.close(kind)
            for many in (1, 12, 1000):
                self.assertEqual(sum(stand_count(kind, many, state) for state in states), len(states) ** many)


if __name__ == "__main__":
    unittest.main()
