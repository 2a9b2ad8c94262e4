"""Runs: updates and rounds, news of updates, what is surely read."""

import unittest
from random import Random

from alikeagain.errors import BadLog, BadNumber, BadStand, TooGreat
from alikeagain.runs import heard_updates, reached, run_stands, shows, surely_read

from tests import slow, slow_relays
from tests.kind_samples import SINGLE, flags, greatest
from tests.nets_samples import NET
from tests.plan_samples import ALL, COME, CROSS, GO, KEEP, NOBODY, SMALL, STRAIGHT, TURN
from tests.refusals import Refusals
from tests.relay_samples import CLEAR, MIXED, RELAY, STEPS, clear_relays, mixed_relays, params, some_relays

SPOT = ("relay", "faults", "moment", "stand")


def random_run(relay, faults, moment, stand, random, many):
    """Steps of a run, any updates and any unread stations, and the stands by hand."""
    steps, stands, news = [], [stand], [set() for _ in stand]
    for number in range(many):
        doers = [station for station in range(len(stand)) if random.random() < 0.4]
        doings = tuple((station, random.randrange(len(relay[1][1]))) for station in doers)
        states = list(stands[-1])
        for station, update in doings:
            states[station] = relay[1][1][update][states[station]]
            news[station] = news[station] | {(number, station)}
        unread = random.choice(slow_relays.unread_lots(relay, faults, moment, tuple(states)))
        stands.append(slow_relays.step(relay, faults, moment, tuple(states), unread))
        heard = slow_relays.hears(relay, faults, moment)
        news = [mine if heard[at] is None or heard[at] in unread else mine | news[heard[at]] for at, mine in enumerate(news)]
        steps.append((doings, unread))
        moment = slow_relays.next_moment(relay, moment)
    return tuple(steps), tuple(stands), tuple(tuple(sorted(mine)) for mine in news)


class TestRuns(Refusals, unittest.TestCase):
    def test_refusals(self):
        for function in (run_stands, heard_updates):
            self.all_refusals(function, params(*SPOT, "steps"))
        self.all_refusals(shows, params("relay", "stand"))
        for function in (reached, surely_read):
            self.all_refusals(function, params(*SPOT, "many"))

    def test_by_hand(self):
        relay = (SMALL, flags(2), ("ab", "cd", "ef", "abab"), 2, 1, ((GO,), (TURN, COME)))
        steps = ((((0, 0), (1, 1)), ()), ((), ()), (((1, 0),), ()))
        self.assertEqual(run_stands(relay, (), 0, (0, 0), ()), ((0, 0),))
        self.assertEqual(run_stands(relay, (), 0, (0, 0), steps), ((0, 0), (1, 3), (3, 3), (3, 3)))
        self.assertEqual(heard_updates(relay, (), 0, (0, 0), ()), ((), ()))
        self.assertEqual(heard_updates(relay, (), 0, (0, 0), steps[:1]), (((0, 0),), ((0, 0), (0, 1))))
        self.assertEqual(heard_updates(relay, (), 0, (0, 0), steps[:2]), (((0, 0), (0, 1)), ((0, 0), (0, 1))))
        self.assertEqual(heard_updates(relay, (), 0, (0, 0), steps), (((0, 0), (0, 1), (2, 1)), ((0, 0), (0, 1), (2, 1))))
        # What is unread brings no news; the state that the updates made counts, not the one ahead.
        self.assertEqual(run_stands(relay, (), 0, (0, 0), ((((0, 1),), ()),)), ((0, 0), (2, 2)))
        self.assertEqual(run_stands(relay, (), 1, (2, 1), ((((1, 1),), (1,)),)), ((2, 1), (2, 3)))
        self.refused(run_stands, (relay, (), 1, (2, 1), (((), (1,)),)), BadLog, place=0)
        self.assertEqual(heard_updates(relay, (), 1, (2, 1), ((((1, 1),), (1,)),)), ((), ((0, 1),)))
        self.assertEqual(heard_updates(relay, (), 1, (2, 1), ((((1, 1),), ()),)), (((0, 1),), ((0, 1),)))

    def test_news_that_changes_no_state(self):
        relay = (SMALL, SINGLE, ("ab",), 2, 1, ((), (GO, COME)))
        steps = ((((0, 0),), ()), (((1, 0),), ()), ((), ()), ((), ()))
        self.assertEqual(run_stands(relay, (), 0, (0, 0), steps), ((0, 0),) * 5)
        self.assertEqual(heard_updates(relay, (), 0, (0, 0), steps), (((0, 0), (1, 1)), ((0, 0), (1, 1))))
        self.assertEqual(heard_updates(relay, (("broken", 0, 0),), 0, (0, 0), steps), (((0, 0), (1, 1)), ((1, 1),)))

    def test_runs_of_sixty_steps(self):
        none = ((), ())
        self.assertEqual(len(run_stands(RELAY, (), 2, (0, 1, 2, 2), (none,) * 60)), 61)
        self.refused(run_stands, (RELAY, (), 2, (0, 1, 2, 2), (none,) * 61), BadLog, place=None)
        self.refused(run_stands, (RELAY, (), 2, (0, 1, 2, 2), (*STEPS, (None, ()))), BadLog, place=3)

    def test_by_other_means(self):
        random = Random(211)
        for relay, faults in some_relays(212, 80) + clear_relays(213, 40):
            for many in (0, 1, 3, 9):
                stand = random.choice(slow_relays.stands(relay))
                moment = random.choice(slow_relays.moments(relay))
                steps, stands, known = random_run(relay, faults, moment, stand, random, many)
                self.assertEqual(run_stands(relay, faults, moment, stand, steps), stands)
                self.assertEqual(heard_updates(relay, faults, moment, stand, steps), known)
                self.assertEqual(shows(relay, stands[-1]), tuple(relay[1][3][state] for state in stands[-1]))
                if many:
                    self.refuse_unread(relay, faults, moment, stand, steps)

    def refuse_unread(self, relay, faults, moment, stand, steps):
        """Assert that stations that cannot be unread in the last step are refused."""
        at = slow_relays.slow_plans.later(relay[5], moment, len(steps) - 1)
        before = list(run_stands(relay, faults, moment, stand, steps[:-1])[-1])
        for station, update in steps[-1][0]:
            before[station] = relay[1][1][update][before[station]]
        can = slow_relays.can_be_unread(relay, faults, at, tuple(before))
        for station in range(len(stand)):
            if station not in can:
                wrong = (*steps[:-1], (steps[-1][0], (station,)))
                self.refused(run_stands, (relay, faults, moment, stand, wrong), BadLog, place=len(steps) - 1)
                self.refused(heard_updates, (relay, faults, moment, stand, wrong), BadLog, place=len(steps) - 1)


class TestReached(Refusals, unittest.TestCase):
    def test_by_hand(self):
        relay = (SMALL, greatest(3), ("ab", "abab", "cd"), 2, 1, ((GO,), (TURN, KEEP)))
        self.assertEqual(reached(relay, (), 0, (1, 0), 0), ((1, 0),))
        self.assertEqual(reached(relay, (), 0, (1, 0), 1), ((1, 0), (1, 1)))
        self.assertEqual(reached(relay, (), 0, (2, 0), 1), ((2, 2),))
        self.assertEqual(reached(relay, (), 0, (1, 0), 60), ((1, 0), (1, 1)))
        self.assertEqual(surely_read(relay, (), 0, (1, 0), 0), (1, 0))
        self.assertEqual(surely_read(relay, (), 0, (1, 0), 1), (1, None))
        self.assertEqual(surely_read(relay, (), 0, (2, 0), 60), (2, 2))
        same = (*relay[:1], (*greatest(3)[:3], (7, 7, 0)), *relay[2:])
        self.assertEqual(surely_read(same, (), 0, (1, 0), 1), (7, 7))
        self.assertEqual(shows(same, (1, 2)), (7, 0))

    def test_by_all_choices(self):
        told = {}
        random = Random(214)
        for relay, faults in some_relays(215, 40) + clear_relays(216, 20) + mixed_relays(217, 40):
            stand = random.choice(slow_relays.stands(relay))
            moment = random.choice(slow_relays.moments(relay))
            rows = slow_relays.reached(relay, faults, moment, stand, 60 if len(stand) == 2 else 7)
            for many in (0, 1, 2, 3, 5, len(rows) - 1):
                self.assertEqual(reached(relay, faults, moment, stand, many), tuple(sorted(rows[many])))
                sure = []
                for station in range(len(stand)):
                    readings = {relay[1][3][one[station]] for one in rows[many]}
                    sure.append(readings.pop() if len(readings) == 1 else None)
                self.assertEqual(surely_read(relay, faults, moment, stand, many), tuple(sure))
                told[len(rows[many])] = True
        self.assertGreaterEqual(len(told), 6)

    def test_more_than_two_thousand(self):
        # Seven states, four stations that are heard and perhaps missed: all stands can be there in the end.
        mixing = (0, (tuple((state + 1) % 7 for state in range(7)),),
                  tuple(tuple((2 * one + other + 1) % 7 for other in range(7)) for one in range(7)), (0,) * 7)
        book = ("ab", "abab", "ababab", "abababab", "ab" * 5, "ab" * 6, "ab" * 7)
        relay = (NET, mixing, book, 2, 4, ((), ((CROSS, ALL), (STRAIGHT, ALL), (((1, 0), (0, 0)), ALL))))
        self.assertEqual(slow.close(mixing), tuple(range(7)))
        rows = slow_relays.reached(relay, (), 0, (0, 1, 2, 3), 4)
        sizes = [len(row) for row in rows]
        first = next(many for many, size in enumerate(sizes) if size > 2000)
        for function in (reached, surely_read):
            function(relay, (), 0, (0, 1, 2, 3), first - 1)
            self.refused(function, (relay, (), 0, (0, 1, 2, 3), first), TooGreat, most=2000)
            self.refused(function, (relay, (), 0, (0, 1, 2, 3), 60), TooGreat, most=2000)
            self.refused(function, (relay, (), 0, (0, 1, 2, 3), 61), BadNumber, value=61)
            self.refused(function, (relay, (), 0, (0, 1, 2, 7), 60), BadStand, value=(0, 1, 2, 7))
        self.assertEqual(reached(relay, (), 0, (0, 1, 2, 3), first - 1), tuple(sorted(rows[first - 1])))

    def test_just_two_thousand(self):
        # Each station hears itself, and is one state further by each message that is not missed.
        further = (0, ((1, 2, 3, 4, 0),), tuple(((one + 1) % 5,) * 5 for one in range(5)), (0,) * 5)
        straight = ((0,) * 4,)
        ring = ((straight, (0, 1, 2, 3, 4, 5, 6)),) + ((straight, (0, 1, 2)),) * 4 + ((straight, (7,)),)
        relay = ((3, ()), further, tuple("ab" * many for many in range(1, 6)), 2, 4, ((), ring))
        for many in (4, 5):
            self.assertEqual(len(reached(relay, (), 0, (0,) * 8, many)), 5 ** 3 * 2 ** 4)
            self.assertEqual(surely_read(relay, (), 0, (0,) * 8, many), (0,) * 8)
        self.refused(reached, (relay, (), 0, (0,) * 8, 6), TooGreat, most=2000)

    def test_no_table_is_wanted(self):
        # More than 2,000 pairs of a moment and a stand, but few stands that can be there.
        relay = (NET, greatest(7), CLEAR[:7], 2, 1, RELAY[5])
        self.assertEqual(len(reached(relay, (), 0, (6, 0, 0, 0), 60)), 1)
        self.assertEqual(surely_read(relay, (), 0, (6, 0, 0, 0), 60), (6, 6, 6, 6))
        mixed = (SMALL, greatest(2), MIXED[:2], 2, 1, ((NOBODY,) * 6, (GO, COME)))
        self.assertEqual(reached(mixed, (), 0, (1, 0), 60), ((1, 0), (1, 1)))


if __name__ == "__main__":
    unittest.main()
