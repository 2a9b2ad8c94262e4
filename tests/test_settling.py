"""By how many steps relays settle, and papers on it."""

import unittest

from alikeagain.delays import delay, delay_paper
from alikeagain.errors import BadFaults, BadPaper, TooGreat
from alikeagain.ranks import ranks
from alikeagain.settling import check_settle, failing_parts, settle_paper, settles

from tests import slow, slow_plans, slow_relays
from tests.kind_samples import BREAKING, SINGLE, flags, greatest
from tests.nets_samples import NET, OMEGA
from tests.plan_samples import COME, GO, KEEP, NOBODY, SMALL, TURN, longest
from tests.refusals import NO_TUPLES, Refusals, otherwise
from tests.relay_samples import CLEAR, COPY, FORGET, FULL, MIXED, RELAY, SWAP, clear_relays, params, some_relays
from tests.test_ranks import EIGHT, STAY

JOINS = (SMALL, greatest(2), CLEAR[:2], 2, 1, ((), (GO, COME)))
FORMS = NO_TUPLES + (
    (), ("one", 0), ("one", ()), ("joins",), ("joins", (), ()), ("ranks",), ("ranks", (), ()), ("apart",), ("apart", 0),
    ("apart", 0, (), (), 0), ("apart", 0, (), (), 0, (), ()), ("delay", (), ()), ("One",), (None, ()), ["one"], ((),), (1,))


def relay_of(kind, plan=((), (TURN,)), book=CLEAR, net=SMALL):
    return net, kind, book[:len(slow.close(kind))], 2, 2, plan


class TestSettles(Refusals, unittest.TestCase):
    def test_refusals(self):
        for function in (settles, failing_parts, settle_paper):
            self.all_refusals(function, params("relay", "faults"))
        wrongs = [(value, BadPaper, {"word": "form"}) for value in FORMS]
        wrongs += [(("joins", value), BadPaper, {"word": "joins"}) for value in NO_TUPLES + ((), ("never", 0, 1, (0,)))]
        wrongs += [(("ranks", value), BadPaper, {"word": "ranks"}) for value in NO_TUPLES + ((), ((),))]
        wrongs += [(("apart", 0, value, ((),), 0, ()), BadPaper, {"word": "apart"}) for value in NO_TUPLES + ((),)]
        wrongs += [(("one",), BadPaper, {"word": "one"})]
        good = settle_paper(*[value for _, value, _ in params("relay", "faults")])
        self.all_refusals(check_settle, params("relay", "faults") + [("paper", good, wrongs)])

    def test_by_hand(self):
        self.assertEqual(settles(JOINS, ()), 2)
        self.assertEqual(failing_parts(JOINS, ()), ())
        self.assertIsNone(settles(JOINS, (("broken", 0, 0),)))
        self.assertEqual(failing_parts(JOINS, (("broken", 0, 0),)), ("plan",))
        mixed = relay_of(greatest(2), book=MIXED)
        self.assertIsNone(settles(mixed, ()))
        self.assertEqual(failing_parts(mixed, ()), ("book",))
        self.assertEqual(failing_parts(relay_of(greatest(2), ((), (KEEP,)), MIXED), ()), ("book", "plan"))
        self.assertEqual(settles(relay_of(FORGET, ((), (TURN, GO))), ()), 2)
        self.assertEqual(failing_parts(relay_of(FORGET, ((), (TURN, GO))), ()), ("kind",))
        self.assertIsNone(settles(relay_of(SWAP), ()))
        self.assertIsNone(settles(relay_of(COPY), ()))
        self.assertEqual(settles(relay_of(COPY, ((), (GO,))), ()), 1)
        self.assertEqual(failing_parts(relay_of(COPY, ((), (GO,))), ()), ("kind", "plan"))
        self.assertEqual(failing_parts(relay_of(SWAP, ((), (KEEP,)), MIXED), ()), ("kind", "book", "plan"))

    def test_one_state_alone(self):
        for plan in (((), (KEEP,)), ((), (TURN,)), ((NOBODY,), (GO, COME))):
            relay = relay_of(SINGLE, plan)
            self.assertEqual(settles(relay, ()), 0)
            self.assertEqual(settle_paper(relay, ()), ("one",))
            self.assertEqual(check_settle(relay, (), ("one",)), 0)
        self.assertEqual(failing_parts(relay_of(SINGLE, ((), (KEEP,))), ()), ("plan",))
        # Ranks show it, too, but not that the kind joins.
        relay = relay_of(SINGLE, ((GO,), (TURN,)))
        self.assertEqual(check_settle(relay, (), ("ranks", ((0,), (0,)))), 0)
        joined = ("joins", delay_paper(relay[0], relay[5], ()))
        self.refused(check_settle, (relay, (), joined), BadPaper, word="joins")
        self.refused(check_settle, (JOINS, (), ("one",)), BadPaper, word="one")

    def test_by_all_choices(self):
        told = {}
        for relay, faults in some_relays(201, 120) + clear_relays(202, 100):
            least = slow_relays.settles(slow_relays.table(relay, faults))
            self.assertEqual(settles(relay, faults), least)
            joins = slow_relays.joins(relay)
            parts = [("kind", not joins), ("book", bool(slow_relays.missable(relay)))]
            parts.append(("plan", slow_plans.delay(relay[0], relay[5], faults) is None))
            self.assertEqual(failing_parts(relay, faults), tuple(word for word, fails in parts if fails))
            if joins and len(slow.close(relay[1])) > 1:
                expected = None if parts[1][1] else delay(relay[0], relay[5], faults)
                self.assertEqual(least, expected)
            told[joins, least is None, parts[1][1]] = True
        # If two texts are mixed up, copies with these two states can be apart for ever, whatever the kind.
        self.assertEqual(len(told), 6)
        self.assertTrue(all(fails for _, fails, missed in told if missed))

    def test_great_relays_of_kinds_that_join(self):
        net, plan = longest(3)
        relay = (net, flags(3), CLEAR, 2, 4, plan)
        self.assertEqual(settles(relay, ()), 48)
        paper = settle_paper(relay, ())
        self.assertEqual(paper[0], "joins")
        self.assertEqual(check_settle(relay, (), paper), 48)
        for other, faults in (((net, flags(3), MIXED, 2, 2, plan), ()), (relay, (("broken", 0, 3),))):
            self.assertIsNone(settles(other, faults))
            paper = settle_paper(other, faults)
            self.assertEqual(paper[0], "apart")
            self.assertIsNone(check_settle(other, faults, paper))
            self.assertTrue(slow_relays.shows_apart(other, faults, paper))
        self.assertEqual(failing_parts((net, flags(3), MIXED, 2, 2, plan), (("broken", 0, 3),)), ("book", "plan"))
        self.refused(check_settle, (relay, (), ("ranks", ())), TooGreat, most=2000)

    def test_too_great(self):
        turn = BREAKING["turn"]
        great = ((3, ()), turn, CLEAR[:3], 2, 1, ((), ((STAY[0][:1], EIGHT),)))
        for function in (settles, settle_paper):
            self.refused(function, (great, ()), TooGreat, most=2000)
            self.refused(function, (great, None), BadFaults, place=None)
        self.assertEqual(failing_parts(great, ()), ("kind", "plan"))
        mixed = (OMEGA, FORGET, MIXED[:2], 2, 1, ((), (STAY,)))
        for function in (settles, settle_paper):
            self.refused(function, (mixed, ()), TooGreat, most=20000)
        self.refused(check_settle, (mixed, (), ("ranks", ())), TooGreat, most=20000)
        self.refused(check_settle, (great, (), ("ranks", None)), TooGreat, most=2000)
        self.refused(check_settle, (great, (), ("ranks",)), BadPaper, word="form")
        self.refused(check_settle, (great, None, ("ranks",)), BadFaults, place=None)
        # Other papers are looked at, however great the relay is.
        self.refused(check_settle, (great, (), ("joins", ())), BadPaper, word="joins")
        self.refused(check_settle, (great, (), ("one",)), BadPaper, word="one")
        self.assertIsNone(check_settle(great, (), ("apart", 0, (0, 1) * 4, ((),), 0, ())))
        # A state alone that comes joins, whatever else there is.
        self.assertEqual(settles((OMEGA, SINGLE, ("ab",), 2, 1, ((STAY,) * 6, (STAY,) * 6)), ()), 0)


class TestPapers(Refusals, unittest.TestCase):
    def test_papers_hold(self):
        told = {}
        for relay, faults in some_relays(203, 120) + clear_relays(204, 100):
            steps = slow_relays.table(relay, faults)
            least = slow_relays.settles(steps)
            paper = settle_paper(relay, faults)
            self.assertEqual(check_settle(relay, faults, paper), least)
            self.assertEqual(slow_relays.paper_on_settling(relay, faults, paper, steps), (least,))
            self.assertIs(paper[0] == "apart", least is None)
            told[paper[0], slow_relays.joins(relay), paper[0] == "apart" and len(paper[3]) > len(relay[5][1])] = True
        self.assertEqual({word for word, _, _ in told}, {"one", "joins", "ranks", "apart"})
        self.assertIn(("apart", True, False), told)
        self.assertIn(("apart", False, False), told)

    def judge(self, relay, faults, paper, steps):
        """Assert that a paper is taken, or refused, as it should be; tells whether it is taken."""
        told = slow_relays.paper_on_settling(relay, faults, paper, steps)
        if isinstance(told, list):
            self.refused(check_settle, (relay, faults, paper), BadPaper, word=told[0])
            return False
        self.assertEqual(check_settle(relay, faults, paper), told[0])
        return True

    def test_papers_with_something_otherwise(self):
        taken = {}
        cases = [(relay_of(FORGET, ((), (TURN, GO))), ()), (relay_of(SWAP), ()), (JOINS, ()), (relay_of(SINGLE), ())]
        cases.append((relay_of(greatest(2), ((), (TURN, GO)), MIXED), ()))
        for relay, faults in cases + some_relays(205, 14, (1,)) + clear_relays(206, 8, (1,)):
            steps = slow_relays.table(relay, faults)
            paper = settle_paper(relay, faults)
            for other in otherwise(paper):
                taken[paper[0], self.judge(relay, faults, other, steps)] = True
        self.assertIn(("apart", True), taken)
        self.assertEqual(len({word for word, _ in taken}), 4)

    def test_ranks_of_kinds_that_join(self):
        found = 0
        for relay, faults in clear_relays(207, 60, (1,)):
            table = ranks(relay, faults)
            steps = slow_relays.table(relay, faults)
            found += self.judge(relay, faults, ("ranks", table), steps)
            for other in otherwise(table)[::11]:
                self.judge(relay, faults, ("ranks", other), steps)
        self.assertGreater(found, 10)

    def test_runs_that_come_round_later(self):
        relay = relay_of(greatest(3), ((), (GO, KEEP)), MIXED)
        steps = slow_relays.table(relay, ())
        good = ("apart", 0, (2, 0), ((0,), (), (0,), ()), 2, ())
        self.assertTrue(self.judge(relay, (), good, steps))
        for back in (0, 1, 2, 3, 4, -1):
            self.judge(relay, (), (*good[:4], back, ()), steps)
        # Behind the first step both are the same for ever, however it was at first.
        soon = ("apart", 0, (2, 0), ((), (), (), ()), 2, ())
        self.assertFalse(self.judge(relay, (), soon, steps))
        # The tail goes on from where the run came round, not from where it began.
        relay = relay_of(greatest(2), ((TURN,), (KEEP,)))
        self.refused(check_settle, (relay, (), ("apart", 0, (1, 0), ((), ()), 1, ())), BadPaper, word="apart")
        self.assertIsNone(check_settle(relay, (), ("apart", 1, (1, 0), ((), ()), 1, ())))
        flip = (0, ((0, 1),), ((1, 1), (1, 0)), (0, 1))
        relay = relay_of(flip, ((), (GO, COME)))
        steps = slow_relays.table(relay, ())
        taken = [self.judge(relay, (), ("apart", 0, stand, ((),) * many, back, ((),) * tail), steps)
                 for stand in slow_relays.stands(relay) for many in range(1, 7) for back in range(many) for tail in range(3)]
        self.assertEqual({True, False}, set(taken))

    def test_a_tail_that_is_needed(self):
        found = {}
        for relay, faults in some_relays(208, 300, (1,)):
            paper = settle_paper(relay, faults)
            if paper[0] == "apart" and paper[5]:
                found[len(paper[5])] = True
                self.refused(check_settle, (relay, faults, (*paper[:5], ())), BadPaper, word="apart")
        relay = relay_of(SWAP, ((), (GO, TURN)))
        steps = slow_relays.table(relay, ())
        for stand in slow_relays.stands(relay):
            for back in range(4):
                for tail in ((), ((),), ((), ())):
                    self.judge(relay, (), ("apart", 0, stand, ((),) * 4, back, tail), steps)

    def test_papers_with_as_many_steps_as_can_be(self):
        relay = relay_of(greatest(2), ((), (TURN,)), MIXED)
        for many in (1, 2000):
            self.assertIsNone(check_settle(relay, (), ("apart", 0, (1, 0), ((0, 1),) * many, many - 1, ((0,),) * 2000)))
        for unreads, tail in (((), ()), (((0,),) * 2001, ()), (((0,),), ((0,),) * 2001)):
            self.refused(check_settle, (relay, (), ("apart", 0, (1, 0), unreads, 0, tail)), BadPaper, word="apart")
        self.refused(check_settle, (relay, (), ("apart", 0, (1, 0), ((0,),), 1, ())), BadPaper, word="apart")
        self.refused(check_settle, (relay, (), ("apart", 0, (1, 1), ((0,),), 0, ())), BadPaper, word="apart")

    def test_papers_with_joins_that_do_not_hold(self):
        plan = ((), (TURN,))
        delays = ("joins", delay_paper(SMALL, plan, ()))
        self.assertEqual(check_settle(relay_of(greatest(2), plan), (), delays), 1)
        for relay in (relay_of(FORGET, plan), relay_of(greatest(2), plan, MIXED), relay_of(SINGLE, plan)):
            self.refused(check_settle, (relay, (), delays), BadPaper, word="joins")
        self.refused(check_settle, (relay_of(SINGLE), (), ("joins", "one")), BadPaper, word="joins")
        self.refused(check_settle, (relay_of(SINGLE), (), ("ranks", "one")), BadPaper, word="ranks")
        never = ("joins", delay_paper(SMALL, ((), (GO,)), ()))
        self.refused(check_settle, (relay_of(greatest(2), ((), (GO,))), (), never), BadPaper, word="joins")

    def test_papers_of_four_stations(self):
        relay = (NET, greatest(2), CLEAR[:2], 2, 1, FULL)
        self.assertEqual(settles(relay, ()), slow_plans.delay(NET, FULL, ()))
        steps = slow_relays.table(relay, ())
        self.assertTrue(self.judge(relay, (), ("ranks", ranks(relay, ())), steps))
        self.assertTrue(self.judge(relay, (), settle_paper(relay, ()), steps))
        self.assertEqual(settle_paper(RELAY, ())[0], "apart")


if __name__ == "__main__":
    unittest.main()
