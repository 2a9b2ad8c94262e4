"""Rounds: tracks, hears, what faults hurt and what they explain."""

import unittest
from itertools import combinations
from random import Random

from alikeagain.errors import BadStation
from alikeagain.nets import many_stations
from alikeagain.rounds import explaining, hears, hurt, need_hearing, need_round, track

from tests import slow
from tests.nets_samples import GREAT, NET, SETTINGS, SMALL_NETS, params, some_nets
from tests.refusals import Refusals, each


def some_rounds(random, net, many):
    """Some rounds of a net."""
    found = []
    for _ in range(many):
        settings = tuple(tuple(random.randrange(2) for _ in range(2 ** net[0] // 2)) for _ in range(len(net[1]) + 1))
        senders = tuple(station for station in range(2 ** net[0]) if random.randrange(4))
        found.append((settings, senders))
    return found


class TestRounds(Refusals, unittest.TestCase):
    def test_refusals(self):
        self.all_refusals(need_round, params("net", "one_round"))
        self.all_refusals(need_hearing, params("net", "hearing"))
        self.all_refusals(hears, params("net", "one_round", "faults"))
        self.all_refusals(track, params("net", "one_round", "faults", "station"))
        self.all_refusals(hurt, params("net", "one_round", "faults"))
        self.all_refusals(explaining, params("net", "one_round", "hearing"))

    def test_rounds_are_told_themselves(self):
        for net in SMALL_NETS:
            for settings in slow.all_settings(net)[:20]:
                for many in range(many_stations(net) + 1):
                    for senders in combinations(range(many_stations(net)), many):
                        one_round = (settings, senders)
                        self.assertIs(need_round(net, one_round), one_round)

    def test_hearings_are_told_themselves(self):
        for hearing in slow.all_hearings(NET):
            self.assertIs(need_hearing(NET, hearing), hearing)
        self.assertEqual(len(slow.all_hearings(NET)), 209)

    def test_track_of_no_sender(self):
        for senders in ((), (0,), (1, 2)):
            for station in set(range(4)) - set(senders):
                self.refused(track, (NET, (SETTINGS, senders), (), station), BadStation, value=station)
        self.all_refusals(track, params("net", "one_round", "faults") + [("station", 3, each((2,), BadStation, "value"))])

    def test_by_hand(self):
        straight = (((0, 0), (0, 0)), (0, 1, 2, 3))
        crossed = (((1, 1), (1, 1)), (0, 1, 2, 3))
        self.assertEqual(hears(NET, straight, ()), (0, 2, 1, 3))
        self.assertEqual(track(NET, straight, (), 1), (1, 1, 2))
        # From 0 to the wire 1, to the place 2, to the wire 3.
        self.assertEqual(track(NET, crossed, (), 0), (0, 1, 3))
        self.assertEqual(hears(NET, crossed, ()), (3, 1, 2, 0))
        self.assertEqual(hears(NET, (((0, 0), (0, 0)), ()), ()), (None,) * 4)
        self.assertEqual(hears(NET, (((0, 0), (1, 0)), (0, 2)), ()), (2, 0, None, None))

    def test_broken_wires_by_hand(self):
        straight = (((0, 0), (0, 0)), (0, 1, 2, 3))
        self.assertEqual(track(NET, straight, (("broken", 0, 1),), 1), (1,))
        self.assertEqual(track(NET, straight, (("broken", 1, 1),), 1), (1, 1))
        self.assertEqual(track(NET, straight, (("broken", 2, 2),), 1), (1, 1, 2))
        for line, wire in ((0, 1), (1, 1), (2, 2)):
            self.assertEqual(hears(NET, straight, (("broken", line, wire),)), (0, 2, None, 3))
            self.assertEqual(hurt(NET, straight, (("broken", line, wire),)), (2,))

    def test_stuck_switches_by_hand(self):
        straight = (((0, 0), (0, 0)), (0, 1, 2, 3))
        self.assertEqual(hurt(NET, straight, (("stuck", 0, 0, 0),)), ())
        self.assertEqual(hears(NET, straight, (("stuck", 0, 0, 1),)), (1, 2, 0, 3))
        self.assertEqual(hurt(NET, straight, (("stuck", 0, 0, 1),)), (0, 2))
        self.assertEqual(hurt(NET, straight, ()), ())

    def test_all_rounds_of_small_nets(self):
        random = Random(6)
        for net in SMALL_NETS:
            for one_round in some_rounds(random, net, 12):
                for faults in random.sample(slow.all_faults(net), 12) + [()]:
                    self.check_round(net, one_round, faults)

    def test_rounds_of_great_nets(self):
        random = Random(7)
        for net in [GREAT] + some_nets(8, 10, (3,)):
            for one_round in some_rounds(random, net, 10):
                self.check_round(net, one_round, random.choice(slow.all_faults(net)))

    def check_round(self, net, one_round, faults):
        sound = slow.hears(net, one_round, ())
        faulty = slow.hears(net, one_round, faults)
        self.assertEqual(hears(net, one_round, faults), faulty)
        for sender in one_round[1]:
            self.assertEqual(track(net, one_round, faults, sender), slow.track(net, one_round[0], faults, sender)[0])
        expected = tuple(station for station in slow.stations(net) if sound[station] != faulty[station])
        self.assertEqual(hurt(net, one_round, faults), expected)
        if len(faults) == 1:
            self.assertLessEqual(len(expected), 1 if faults[0][0] == "broken" else 2)

    def test_explaining(self):
        random = Random(9)
        for net in SMALL_NETS:
            for one_round in some_rounds(random, net, 4):
                lots = [()] + slow.all_single(net)
                told = {faults: slow.hears(net, one_round, faults) for faults in lots}
                for hearing in set(told.values()) | {random.choice(slow.all_hearings(net))}:
                    expected = tuple(faults for faults in lots if told[faults] == hearing)
                    self.assertEqual(explaining(net, one_round, hearing), expected)

    def test_explaining_by_hand(self):
        one_round = (((0,),), (0,))
        self.assertEqual(explaining((1, ()), one_round, (0, None)),
                         ((), (("broken", 0, 1),), (("broken", 1, 1),), (("stuck", 0, 0, 0),)))
        self.assertEqual(explaining((1, ()), one_round, (None, 0)), ((("stuck", 0, 0, 1),),))
        self.assertEqual(explaining((1, ()), one_round, (None, None)), ((("broken", 0, 0),), (("broken", 1, 0),)))
        self.assertEqual(explaining((1, ()), one_round, (1, None)), ())


if __name__ == "__main__":
    unittest.main()
