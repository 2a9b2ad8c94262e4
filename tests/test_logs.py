"""Logs: the stands and the faults that fit what was shown."""

import unittest
from random import Random

from alikeagain.errors import BadFaults, BadLog, TooGreat
from alikeagain.logs import begin_stands, first_false, fitting_faults, shown_next

from tests import nets_samples, plan_samples, relay_samples, slow_live, slow_relays
from tests.kind_samples import SINGLE, greatest
from tests.nets_samples import OMEGA
from tests.plan_samples import ALL, COME, GO, KEEP, NOBODY, SMALL, STRAIGHT, TURN
from tests.refusals import NO_NUMBERS, NO_TUPLES, Refusals, at_place
from tests.relay_samples import CLEAR, COPY, RELAY, SWAP, clear_relays, mixed_relays, some_relays
from tests.test_ranks import STAY, five

SHOWN = (5, 0, 9, 9)
LOG = (SHOWN, SHOWN)
NO_SHOWN = NO_TUPLES + ((), SHOWN[:3], (*SHOWN, 0), list(SHOWN), (5, 0, 9, 10), (5, 0, 9, -1), (10 ** 999, 0, 0, 0), (SHOWN,)) \
    + tuple((5, value, 9, 9) for value in NO_NUMBERS)
NO_SERIES = tuple(value for value in NO_TUPLES if not isinstance(value, list))
WRONG_LOGS = (
    at_place(NO_SERIES + ((), [], (SHOWN,) * 13, [SHOWN] * 13, (None,) * 13), BadLog, None)
    + at_place([(value,) for value in NO_SHOWN] + [SHOWN, list(SHOWN), [0], [0, 1]], BadLog, 0)
    + at_place([[value, None] for value in NO_SHOWN[::3]], BadLog, 0)
    + at_place([[SHOWN, SHOWN, value] for value in NO_SHOWN], BadLog, 2)
    + at_place([(*[SHOWN] * 11, value) for value in NO_SHOWN[::3]], BadLog, 11)
)
FAULTS = (("stuck", 0, 0, 0),)
MENU = (FAULTS, (), FAULTS)
NO_FAULTS = tuple(value for value, _, _ in nets_samples.WRONG_FAULTS[::3])
WRONG_MENUS = (
    at_place(NO_TUPLES + ((), [()], ((),) * 9, (None,) * 9), BadFaults, None)
    + at_place([(value,) for value in NO_FAULTS], BadFaults, 0)
    + at_place([((), FAULTS, value, None) for value in NO_FAULTS], BadFaults, 2)
    + at_place([(*[()] * 7, value) for value in NO_FAULTS[::3]], BadFaults, 7)
    + at_place([FAULTS], BadFaults, 0)
)
PARAMS = {
    "relay": (RELAY, relay_samples.WRONG_RELAYS[::3]),
    "faults": (FAULTS, nets_samples.WRONG_FAULTS[::5]),
    "menu": (MENU, WRONG_MENUS),
    "log": (LOG, WRONG_LOGS),
}
LOGGED = (begin_stands, shown_next, first_false)


def params(*names):
    """What Refusals.all_refusals asks for, for these arguments."""
    return [(name, *PARAMS[name]) for name in names]


def random_log(random, relay, faults, many):
    """What a run shows, perhaps with something otherwise."""
    stand = random.choice(slow_relays.stands(relay))
    rows = [slow_live.shown(relay, stand)]
    moment = 0
    for _ in range(many - 1):
        stand = random.choice(slow_relays.laters(relay, faults, moment, stand))
        moment = slow_relays.next_moment(relay, moment)
        rows.append(slow_live.shown(relay, stand))
    if random.random() < 0.3:
        rows[random.randrange(many)] = random.choice(slow_live.all_shown(relay))
    return random.choice((tuple, list))(rows)


def reading(relay, row):
    """A relay by whose kind less is read."""
    return (relay[0], (*relay[1][:3], tuple(row[:len(relay[1][3])])), *relay[2:])


class TestLogs(Refusals, unittest.TestCase):
    def test_refusals(self):
        for function in LOGGED:
            self.all_refusals(function, params("relay", "faults", "log"))
        self.all_refusals(fitting_faults, params("relay", "menu", "log"))

    def test_by_hand(self):
        relay = (SMALL, greatest(3), CLEAR[:3], 2, 1, ((), (GO, COME)))
        self.assertEqual(begin_stands(relay, (), ((0, 2),)), ((0, 2),))
        self.assertEqual(shown_next(relay, (), ((0, 2),)), ((0, 2),))
        self.assertEqual(shown_next(relay, (), [(0, 2), (0, 2)]), ((2, 2),))
        self.assertEqual(shown_next(relay, (), ((1, 0),)), ((1, 1),))
        self.assertEqual(first_false(relay, (), ((0, 2), (2, 2))), 1)
        self.assertEqual(first_false(relay, (), ((9, 9), (2, 2))), 0)
        self.assertIsNone(first_false(relay, (), ((0, 2), (0, 2), (2, 2))))
        self.assertEqual(begin_stands(relay, (), ((0, 2), (2, 2))), ())
        self.assertEqual(shown_next(relay, (), ((0, 2), (2, 2))), ())
        # What is lost tells of faults: 0's message, or 1's.
        broken = ((), (("broken", 0, 0),), (("broken", 0, 1),), (("stuck", 0, 0, 0),), (("broken", 0, 0), ("broken", 0, 1)))
        self.assertEqual(fitting_faults(relay, broken, ((1, 0), (1, 1))), (0, 2))
        self.assertEqual(fitting_faults(relay, broken, ((1, 0), (1, 0))), (1, 3, 4))
        self.assertEqual(fitting_faults(relay, broken, ((1, 0), (1, 0), (1, 0))), (1, 3, 4))
        self.assertEqual(fitting_faults(relay, broken, ((0, 1), (0, 1))), (0, 1, 2, 3, 4))
        self.assertEqual(fitting_faults(relay, broken, ((0, 1), (0, 1), (1, 1))), (0, 1))
        self.assertEqual(fitting_faults(relay, broken, ((0, 1), (0, 0))), ())
        self.assertEqual(fitting_faults(relay, ((),), [(0, 1)]), (0,))
        self.assertEqual(fitting_faults(relay, ((), ()) * 4, [(0, 1)]), tuple(range(8)))

    def test_what_reads_the_same(self):
        # Of all states the same is read till a run has shown more.
        relay = reading((SMALL, greatest(3), CLEAR[:3], 2, 1, ((), (TURN,))), (0, 0, 7))
        self.assertEqual(begin_stands(relay, (), ((0, 0),)), ((0, 0), (0, 1), (1, 0), (1, 1)))
        self.assertEqual(begin_stands(relay, (), ((0, 7),)), ((0, 2), (1, 2)))
        self.assertEqual(shown_next(relay, (), ((0, 0),)), ((0, 0),))
        self.assertEqual(begin_stands(relay, (), ((0, 0), (7, 7))), ())
        # What is missed or not: by TIMES 1 the first two texts are mixed up.
        mixed = reading((SMALL, greatest(3), ("ab", "abab", "cd"), 2, 1, ((), (TURN,))), (0, 1, 7))
        self.assertEqual(shown_next(mixed, (), ((0, 1),)), ((0, 1), (1, 1)))
        self.assertEqual(shown_next(mixed, (), ((0, 7),)), ((7, 7),))
        self.assertEqual(begin_stands(mixed, (), ((0, 1),) * 12), ((0, 1),))
        self.assertIsNone(first_false(mixed, (), ((0, 1),) * 11 + ((1, 1),)))
        self.assertEqual(first_false(mixed, (), ((0, 1), (1, 1), (0, 1))), 2)
        # A copy that is taken over tells what stood there at first.
        copy = reading((SMALL, COPY, CLEAR[:2], 2, 1, ((GO,), (KEEP, TURN))), (3, 3))
        self.assertEqual(begin_stands(copy, (), ((3, 3),) * 3), ((0, 0), (0, 1), (1, 0), (1, 1)))
        self.assertEqual(shown_next(copy, (), ((3, 3),) * 12), ((3, 3),))

    def test_moments(self):
        # Ahead once, then the ring: by the third round both turn.
        relay = (SMALL, SWAP, CLEAR[:2], 2, 1, ((NOBODY, KEEP), (TURN, NOBODY)))
        rows = ((0, 0), (0, 0), (1, 1), (0, 0), (0, 0), (1, 1), (1, 1), (0, 0), (0, 0), (1, 1), (1, 1), (0, 0))
        self.assertIsNone(first_false(relay, (), rows))
        self.assertEqual(begin_stands(relay, (), rows), ((0, 0),))
        self.assertEqual(shown_next(relay, (), rows), ((0, 0),))
        for number in range(1, 12):
            self.assertEqual(shown_next(relay, (), list(rows[:number])), (rows[number],))
            other = (*rows[:number], tuple(1 - state for state in rows[number]), *rows[number + 1:])
            self.assertEqual(first_false(relay, (), other), number)

    def test_one_state_alone(self):
        relay = (OMEGA, SINGLE, ("ab",), 2, 1, ((), (STAY,)))
        shown = (SINGLE[3][0],) * 8
        self.assertEqual(begin_stands(relay, (), (shown,) * 12), ((0,) * 8,))
        self.assertEqual(shown_next(relay, (), [shown]), (shown,))
        self.assertEqual(first_false(relay, (), [shown, (9 - shown[0],) * 8]), 1)

    def test_by_all_rows_of_messages(self):
        told = {}
        random = Random(421)
        samples = some_relays(422, 70, (1, 1, 1, 2)) + clear_relays(423, 40, (1,)) + mixed_relays(424, 30)
        for relay, faults in samples:
            if len(slow_relays.stands(relay)) > 20:
                continue
            if random.random() < 0.6:
                relay = reading(relay, [random.choice((0, 0, 1, 4)) for _ in range(8)])
            menu = tuple(random.choice(((), faults, plan_samples.random_faults(random, relay[0])))
                         for _ in range(random.randint(1, 8)))
            log = random_log(random, relay, faults, random.choice((1, 2, 2, 3, 4)))
            expected = slow_live.begin_stands(relay, faults, log)
            self.assertEqual(begin_stands(relay, faults, log), expected)
            self.assertEqual(shown_next(relay, faults, log), slow_live.shown_next(relay, faults, log))
            self.assertEqual(first_false(relay, faults, log), slow_live.first_false(relay, faults, log))
            fit = tuple(number for number, few in enumerate(menu) if slow_live.begin_stands(relay, few, log))
            self.assertEqual(fitting_faults(relay, menu, log), fit)
            told["stands", min(len(expected), 2)] = True
            told["faults", len(fit) == 0, len(fit) == len(menu)] = True
            told["shown", min(len(shown_next(relay, faults, log)), 2)] = True
        self.assertEqual(len(told), 9)

    def test_too_great(self):
        log = ((0,) * 4,)
        great = five(*[(STRAIGHT, ())] * 4)
        both = five((STRAIGHT, ALL), (STRAIGHT, ALL), (STRAIGHT, ALL))
        for function in LOGGED:
            function(five(*[(STRAIGHT, ())] * 3), (), log)
            function(five((STRAIGHT, ALL)), (), log)
            self.refused(function, (great, (), log), TooGreat, most=2000)
            self.refused(function, (both, (), log), TooGreat, most=20000)
            self.refused(function, (great, None, log), BadFaults, place=None)
            self.refused(function, (both, (), (None,)), BadLog, place=0)
        self.refused(fitting_faults, (great, ((),), log), TooGreat, most=2000)
        self.refused(fitting_faults, (both, ((),), log), TooGreat, most=20000)
        self.refused(fitting_faults, (both, ((), None), log), BadFaults, place=1)
        self.refused(fitting_faults, (great, ((),), ()), BadLog, place=None)
        # Of some faults there are few enough steps, but not of the others.
        lost = (("broken", 0, 0), ("broken", 0, 1))
        self.assertEqual(fitting_faults(both, (lost,), log), (0,))
        self.refused(fitting_faults, (both, (lost, ()), log), TooGreat, most=20000)
        self.assertEqual(begin_stands(both, lost, log), ((0,) * 4,))


if __name__ == "__main__":
    unittest.main()
