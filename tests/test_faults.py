"""Faults: which there are, and which ways are left."""

import unittest

from alikeagain.errors import BadFaults
from alikeagain.faults import lost_pairs, need_faults, single_faults, ways_left
from alikeagain.nets import many_stations, ways

from tests import slow
from tests.nets_samples import GREAT, NET, SMALL_NETS, params, some_nets
from tests.refusals import Refusals


class TestFaults(Refusals, unittest.TestCase):
    def test_refusals(self):
        self.all_refusals(need_faults, params("net", "faults"))
        self.all_refusals(single_faults, params("net"))
        self.all_refusals(ways_left, params("net", "faults", "one", "other"))
        self.all_refusals(lost_pairs, params("net", "faults"))

    def test_faults_are_told_themselves(self):
        for net in SMALL_NETS:
            for faults in slow.all_faults(net):
                self.assertIs(need_faults(net, faults), faults)

    def test_just_these_pairs_are_faults(self):
        singles = [faults[0] for faults in slow.all_single(NET)]
        good = set(slow.all_faults(NET))
        for one in singles:
            for other in singles:
                if (one, other) in good:
                    self.assertEqual(need_faults(NET, (one, other)), (one, other))
                else:
                    self.refused(need_faults, (NET, (one, other)), BadFaults, place=1)

    def test_first_and_last_line(self):
        for line, wire in ((0, 0), (0, 1), (1, 0), (1, 1)):
            faults = (("broken", line, wire),)
            self.assertEqual(need_faults((1, ()), faults), faults)
        self.refused(need_faults, ((1, ()), (("broken", 2, 0),)), BadFaults, place=0)
        self.refused(need_faults, ((1, ()), (("stuck", 1, 0, 0),)), BadFaults, place=0)

    def test_single_faults(self):
        expected = ("broken", 0, 0), ("broken", 0, 1), ("broken", 1, 0), ("broken", 1, 1)
        expected += ("stuck", 0, 0, 0), ("stuck", 0, 0, 1)
        self.assertEqual(single_faults((1, ())), tuple((fault,) for fault in expected))
        for net in SMALL_NETS + (GREAT,):
            self.assertEqual(single_faults(net), tuple(slow.all_single(net)))

    def test_ways_left_by_hand(self):
        net = (1, ((0, 1),))
        self.assertEqual(ways_left(net, (), 0, 1), ((0, 0, 1), (0, 1, 1)))
        self.assertEqual(ways_left(net, (("broken", 1, 0),), 0, 1), ((0, 1, 1),))
        self.assertEqual(ways_left(net, (("broken", 0, 0),), 0, 1), ())
        self.assertEqual(ways_left(net, (("broken", 2, 1),), 0, 1), ())
        self.assertEqual(ways_left(net, (("broken", 2, 0),), 0, 1), ((0, 0, 1), (0, 1, 1)))
        self.assertEqual(ways_left(net, (("stuck", 0, 0, 0),), 0, 1), ((0, 0, 1),))
        self.assertEqual(ways_left(net, (("stuck", 0, 0, 1), ("stuck", 1, 0, 0)), 0, 1), ((0, 1, 1),))

    def test_ways_left_are_those_of_all_settings(self):
        for net in SMALL_NETS[:8]:
            for faults in slow.all_faults(net)[::3]:
                for one in range(many_stations(net)):
                    for other in range(many_stations(net)):
                        self.assertEqual(ways_left(net, faults, one, other), slow.left(net, faults, one, other))

    def test_lost_pairs_by_hand(self):
        self.assertEqual(lost_pairs((1, ()), ()), ())
        self.assertEqual(lost_pairs((1, ()), (("broken", 0, 0),)), ((0, 0), (0, 1)))
        self.assertEqual(lost_pairs((1, ()), (("broken", 1, 0),)), ((0, 0), (1, 0)))
        self.assertEqual(lost_pairs((1, ()), (("stuck", 0, 0, 0),)), ((0, 1), (1, 0)))
        # Where no way leads at all none is lost.
        self.assertEqual(lost_pairs((2, ()), (("broken", 0, 3),)), ((3, 2), (3, 3)))

    def test_lost_pairs_are_those_of_all_settings(self):
        for net in list(SMALL_NETS[:7]) + some_nets(5, 4, (2,)):
            for faults in slow.all_faults(net)[::7]:
                expected = []
                for one in range(many_stations(net)):
                    for other in range(many_stations(net)):
                        if ways(net, one, other) and not slow.left(net, faults, one, other):
                            expected.append((one, other))
                self.assertEqual(lost_pairs(net, faults), tuple(expected))


if __name__ == "__main__":
    unittest.main()
