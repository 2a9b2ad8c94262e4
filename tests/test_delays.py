"""Delays of plans, papers on them, doubling plans."""

import unittest

from alikeagain.delays import check_delay, delay, delay_paper, doubling_plan, moment_delay
from alikeagain.errors import BadPaper
from alikeagain.plans import turned_ring

from tests import nets_samples, slow, slow_plans
from tests.nets_samples import NET, NETS, OMEGA, WRONG_NETS
from tests.plan_samples import ALL, COME, DOUBLING, GO, KEEP, NOBODY, PLAN, SMALL, TURN, longest, params, some_plans
from tests.refusals import NO_TUPLES, Refusals, otherwise

NEVER = ("never", 0, 3, (0, 1, 2))
FORMS = NO_TUPLES + (
    (), ("delay",), ("never",), ("delay", ()), ("delay", (), (), ()), ("never", 0, 1), ("never", 0, 1, (0,), ()),
    ("never", 0, 1), (None, (), ()), (0, 0, 1, (0,)), ("Delay", (), ()), ["never", 0, 1, (0,)], ("delay", 0, 1, (0,)),
    ("never", (), ()))


class TestDelays(Refusals, unittest.TestCase):
    def test_refusals(self):
        self.all_refusals(delay, params("net", "plan", "faults"))
        self.all_refusals(moment_delay, params("net", "plan", "faults", "moment"))
        self.all_refusals(delay_paper, params("net", "plan", "faults"))
        self.all_refusals(doubling_plan, [("net", DOUBLING, WRONG_NETS)])
        wrongs = [(value, BadPaper, {"word": "form"}) for value in FORMS]
        good = delay_paper(*[value for _, value, _ in params("net", "plan", "faults")])
        wrongs += [(("delay", value, good[2]), BadPaper, {"word": "delay"}) for value in NO_TUPLES + ((), good[1][:3])]
        wrongs += [(("delay", good[1], value), BadPaper, {"word": "delay"}) for value in NO_TUPLES + ((), good[2][:3])]
        wrongs += [(("never", 0, 1, value), BadPaper, {"word": "never"}) for value in NO_TUPLES + ((), (0, 1), (0,))]
        wrongs += [(("never", value, 1, (0,)), BadPaper, {"word": "never"}) for value in NO_TUPLES + ((), 4, -1)]
        wrongs += [(("never", 0, value, (0,)), BadPaper, {"word": "never"}) for value in NO_TUPLES + ((), 4, -1)]
        self.all_refusals(check_delay, params("net", "plan", "faults") + [("paper", good, wrongs)])

    def test_by_hand(self):
        self.assertEqual(delay(SMALL, ((), (TURN,)), ()), 1)
        self.assertIsNone(delay(SMALL, ((), (KEEP,)), ()))
        self.assertIsNone(delay(SMALL, ((TURN,), (GO, NOBODY)), ()))
        self.assertEqual(moment_delay(SMALL, ((TURN,), (GO, NOBODY)), (), 0), 1)
        self.assertIsNone(moment_delay(SMALL, ((TURN,), (GO, NOBODY)), (), 1))
        plan = ((NOBODY, GO), (COME, TURN))
        self.assertEqual([moment_delay(SMALL, plan, (), moment) for moment in range(4)], [3, 2, 2, 1])
        self.assertEqual(delay(SMALL, plan, ()), 3)
        self.assertIsNone(delay(SMALL, plan, (("broken", 0, 0),)))
        self.assertEqual(delay(SMALL, ((), (GO, COME)), (("stuck", 0, 0, 1),)), 2)
        self.assertIsNone(delay(SMALL, ((), (GO, COME)), (("stuck", 0, 0, 0),)))

    def test_by_all_rounds(self):
        told = {}
        for net, plan, faults in some_plans(151, 150):
            whole = slow_plans.delay(net, plan, faults)
            self.assertEqual(delay(net, plan, faults), whole)
            for moment in slow_plans.moments(plan):
                least = slow_plans.moment_delay(net, plan, faults, moment)
                self.assertEqual(moment_delay(net, plan, faults, moment), least)
            lots = slow_plans.parted_lots(net, plan, faults)
            self.assertIs(whole is None, bool(lots))
            if whole is not None:
                self.assertLessEqual(net[0], whole)
                self.assertLessEqual(whole, len(plan[0]) + len(plan[1]) * (2 ** net[0] - 1))
            told[whole is None, len(faults)] = True
            for many in (1, 2, 3):
                self.assertIs(delay(net, turned_ring(net, plan, many), faults) is None, bool(lots))
        self.assertEqual(len(told), 6)

    def test_the_longest(self):
        for bits in (1, 2, 3):
            net, plan = longest(bits)
            most = 6 + 6 * (2 ** bits - 1)
            self.assertEqual(delay(net, plan, ()), most)
            paper = delay_paper(net, plan, ())
            self.assertEqual(check_delay(net, plan, (), paper), most)
            self.assertEqual(slow_plans.paper_on_delay(net, plan, (), paper), (most,))
            self.assertEqual(len(paper[2][3]), most)
            for ahead, ring in ((0, 5), (6, 1), (1, 6)):
                self.assertEqual(delay(*longest(bits, ahead, ring), ()), ahead + ring * (2 ** bits - 1))

    def test_papers_hold(self):
        told = {}
        for net, plan, faults in some_plans(152, 80):
            paper = delay_paper(net, plan, faults)
            whole = delay(net, plan, faults)
            self.assertEqual(paper[0], "never" if whole is None else "delay")
            self.assertEqual(check_delay(net, plan, faults, paper), whole)
            self.assertEqual(slow_plans.paper_on_delay(net, plan, faults, paper), (whole,))
            told[paper[0]] = True
        self.assertEqual(len(told), 2)

    def judge(self, net, plan, faults, paper):
        """Assert that a paper is taken, or refused, as it should be; tells whether it is taken."""
        told = slow_plans.paper_on_delay(net, plan, faults, paper)
        if isinstance(told, list):
            self.refused(check_delay, (net, plan, faults, paper), BadPaper, word=told[0])
            return False
        self.assertEqual(check_delay(net, plan, faults, paper), told[0])
        return True

    def test_papers_with_something_otherwise(self):
        taken = []
        cases = [(SMALL, ((), (TURN,)), ()), (SMALL, ((NOBODY, GO), (COME, TURN)), ()), (SMALL, ((), (KEEP,)), ())]
        for net, plan, faults in cases + some_plans(153, 12, (1, 2)):
            for other in otherwise(delay_paper(net, plan, faults)):
                taken.append(self.judge(net, plan, faults, other))
        self.assertIn(True, taken)

    def test_papers_by_other_hands(self):
        plan = ((), (GO, COME))
        # Station 1 hears 0 by GO, 0 hears 1 by COME; FIRSTS may be later than the first news.
        soon = (((0, 1), (2, 0)), ((0, 2), (1, 0)))
        late = (((0, 3), (2, 0)), ((0, 2), (1, 0)))
        for firsts in (soon, late, (((0, 2), (2, 0)), ((0, 2), (1, 0))), (((0, 0), (2, 0)), ((0, 2), (1, 0)))):
            for end in ((0, 1, 0, ((1,), (1,))), (0, 1, 0, ((0, 1), (0, 1))), (0, 1, 0, ((1,), ())), (1, 0, 1, ((0,), (0,)))):
                self.judge(SMALL, plan, (), ("delay", firsts, end))
        self.assertEqual(check_delay(SMALL, plan, (), ("delay", soon, (0, 1, 0, ((1,), (1,))))), 2)
        self.assertEqual(check_delay(SMALL, plan, (), ("delay", soon, (1, 0, 1, ((0,), (0,))))), 2)
        self.refused(check_delay, (SMALL, plan, (), ("delay", late, (0, 1, 0, ((1,),) * 3))), BadPaper, word="delay")
        # Lots that are wider than they have to be, but without OTHER.
        wide = (((1, 2), (1, 2)), ((1,), (1, 2)), ((2,), (2, 1)))
        net, plan, faults = (2, ()), ((), ((((0, 1),), (0, 1, 2, 3)),)), ()
        self.assertIsNone(delay(net, plan, faults))
        self.judge(net, plan, faults, ("never", 0, 3, (0,)))
        for lots in wide:
            self.judge(net, plan, faults, ("never", 1, 0, lots[0]))
        for lot in slow_plans.parted_lots(net, plan, faults):
            for one in lot:
                for other in set(ALL) - set(lot):
                    self.assertIsNone(check_delay(net, plan, faults, ("never", one, other, lot)))

    def test_lots_that_are_wider(self):
        found = 0
        for net, plan, faults in some_plans(154, 60, (2,)):
            paper = delay_paper(net, plan, faults)
            if paper[0] == "delay":
                moment, one, other, lots = paper[2]
                for more in set(ALL) - {other}:
                    wider = tuple(tuple(sorted(set(lot) | {more})) for lot in lots)
                    found += self.judge(net, plan, faults, ("delay", paper[1], (moment, one, other, wider)))
                self.judge(net, plan, faults, ("delay", paper[1], (moment, one, other, (ALL,) * len(lots))))
        self.assertGreater(found, 10)

    def test_lots_with_stations_that_are_none(self):
        plan = ((), (GO, COME))
        firsts = (((0, 1), (2, 0)), ((0, 2), (1, 0)))
        for lot in ((1, 2), (1, 10 ** 999), (-1, 1), (1, 0), (1, 1), [1], (True,), (1, None)):
            self.refused(check_delay, (SMALL, plan, (), ("delay", firsts, (0, 1, 0, (lot, lot)))), BadPaper, word="delay")
            never = ("never", 1, 0, lot)
            self.refused(check_delay, (SMALL, ((TURN,), (GO,)), (), never), BadPaper, word="never")

    def test_never_papers_that_do_not_hold(self):
        plan = ((TURN,), (GO, NOBODY))
        self.assertIsNone(check_delay(SMALL, plan, (), ("never", 1, 0, (1,))))
        self.refused(check_delay, (SMALL, plan, (), ("never", 0, 1, (0,))), BadPaper, word="never")
        self.refused(check_delay, (SMALL, plan, (), ("never", 1, 1, (1,))), BadPaper, word="never")
        self.refused(check_delay, (SMALL, plan, (), ("never", 0, 0, (1,))), BadPaper, word="never")
        self.refused(check_delay, (SMALL, plan, (), ("never", True, 0, (1,))), BadPaper, word="never")
        self.refused(check_delay, (SMALL, plan, (), ("delay", (((0, 1), (1, 0)),) * 3, (0, 0, 1, ((0,),)))), BadPaper,
                     word="delay")


class TestDoubling(Refusals, unittest.TestCase):
    def test_by_all_settings(self):
        told = {}
        for net in NETS + nets_samples.SMALL_NETS + tuple(nets_samples.some_nets(155, 60, (1, 2, 2))):
            if len(slow.all_settings(net)) <= 4096:
                expected = by_all_settings(net)
                self.assertEqual(doubling_plan(net), expected)
                told[net[0], expected is None] = True
        self.assertTrue({(1, False), (2, True), (2, False), (3, True)} <= set(told))

    def test_their_delay(self):
        self.assertEqual(doubling_plan(SMALL), ((), ((((1,),), (0, 1)),)))
        self.assertIsNone(doubling_plan(NET))
        self.assertIsNone(doubling_plan(OMEGA))
        self.assertIsNone(doubling_plan((3, ())))
        plan = doubling_plan(DOUBLING)
        self.assertEqual(delay(DOUBLING, plan, ()), 2)

    def test_of_three_bits(self):
        found = 0
        for net in nets_samples.some_nets(156, 400, (3,)):
            plan = doubling_plan(net)
            if plan is None:
                continue
            found += 1
            self.assertEqual(plan[0], ())
            self.assertEqual(delay(net, plan, ()), 3)
            for figure, one_round in enumerate(plan[1]):
                heard = slow.hears(net, one_round, ())
                self.assertEqual(heard, tuple(station ^ 2 ** figure for station in range(8)))
        self.assertGreater(found, 0)


def by_all_settings(net):
    """The doubling plan with the first settings, found by trying all, or None."""
    everyone = tuple(slow.stations(net))
    ring = []
    for figure in range(net[0]):
        wanted = tuple(station ^ 2 ** figure for station in everyone)
        fits = [settings for settings in slow.all_settings(net) if slow.hears(net, (settings, everyone), ()) == wanted]
        if not fits:
            return None
        ring.append((fits[0], everyone))
    return (), tuple(ring)


if __name__ == "__main__":
    unittest.main()
