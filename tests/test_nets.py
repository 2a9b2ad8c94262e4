"""Nets, lines, rows of switches, ways."""

import unittest

from alikeagain.errors import BadRound
from alikeagain.nets import many_rows, many_stations, need_net, need_settings, turned, ways

from tests import slow
from tests.nets_samples import GREAT, NET, NETS, SHUFFLE, SMALL_NETS, params, some_nets
from tests.refusals import Refusals


class TestNets(Refusals, unittest.TestCase):
    def test_refusals(self):
        self.all_refusals(need_net, params("net"))
        self.all_refusals(need_settings, params("net", "settings"))
        self.all_refusals(many_stations, params("net"))
        self.all_refusals(many_rows, params("net"))
        self.all_refusals(turned, params("net"))
        self.all_refusals(ways, params("net", "one", "other"))

    def test_nets_are_told_themselves(self):
        for net in NETS + tuple(some_nets(1, 30)):
            self.assertIs(need_net(net), net)

    def test_settings_are_told_themselves(self):
        for net in SMALL_NETS:
            for settings in slow.all_settings(net):
                self.assertIs(need_settings(net, settings), settings)

    def test_settings_are_those_of_the_net(self):
        self.refused(need_settings, ((1, ()), ((0, 0),)), BadRound, place=0)
        self.refused(need_settings, ((1, ()), ((0,), (0,))), BadRound, place=0)
        self.refused(need_settings, ((3, ()), ((0, 0),)), BadRound, place=0)

    def test_how_many(self):
        self.assertEqual([many_stations((bits, ())) for bits in (1, 2, 3)], [2, 4, 8])
        self.assertEqual([many_rows((2, (SHUFFLE,) * many)) for many in (0, 1, 2, 3)], [1, 2, 3, 4])

    def test_turned(self):
        self.assertEqual(turned((2, ())), (2, ()))
        self.assertEqual(turned((2, ((1, 2, 3, 0), SHUFFLE))), (2, (SHUFFLE, (3, 0, 1, 2))))
        for net in some_nets(2, 40):
            self.assertEqual(turned(turned(net)), net)

    def test_turned_net_has_the_ways_turned_as_wires_go(self):
        # A way backwards meets the places of the rows, so it is told by the switches along it.
        for net in some_nets(3, 10, (1, 2)):
            back = turned(net)
            for one in range(many_stations(net)):
                for other in range(many_stations(net)):
                    there = [self.switches_of(net, way) for way in ways(net, one, other)]
                    again = [self.switches_of(back, way)[::-1] for way in ways(back, other, one)]
                    self.assertEqual(sorted(there), sorted(again))

    def switches_of(self, net, way):
        return [wire // 2 for wire in way[1:]]

    def test_ways_of_one_row(self):
        self.assertEqual(ways((1, ()), 0, 1), ((0, 1),))
        self.assertEqual(ways((1, ()), 1, 1), ((1, 1),))
        self.assertEqual(ways((2, ()), 0, 2), ())
        self.assertEqual(ways((2, ()), 3, 2), ((3, 2),))

    def test_ways_by_hand(self):
        # From the wire 1 of the line 1 to the place 2, from 0 to 0.
        self.assertEqual(ways(NET, 0, 3), ((0, 1, 3),))
        self.assertEqual(ways(NET, 0, 0), ((0, 0, 0),))
        self.assertEqual(ways((2, ((1, 2, 3, 0),)), 0, 1), ((0, 0, 1),))
        self.assertEqual(ways((2, ((1, 2, 3, 0),)), 0, 2), ((0, 1, 2),))
        self.assertEqual(ways((1, ((0, 1),)), 0, 1), ((0, 0, 1), (0, 1, 1)))

    def test_ways_are_those_of_all_settings(self):
        for net in NETS + tuple(some_nets(4, 20, (1, 2))):
            for one in range(many_stations(net)):
                for other in range(many_stations(net)):
                    self.assertEqual(ways(net, one, other), slow.ways(net, one, other))

    def test_ways_of_a_great_net(self):
        found = [ways(GREAT, one, other) for one in range(8) for other in range(8)]
        self.assertEqual(sum(map(len, found)), 8 * 16)
        for row in found:
            self.assertEqual(list(row), sorted(set(row)))


if __name__ == "__main__":
    unittest.main()
