"""Nets and wrong values for the tests of nets, rounds, faults and what can be heard."""

from random import Random

from alikeagain.errors import BadFaults, BadHears, BadNet, BadRound, BadStation, BadWants

from tests.refusals import NO_NUMBERS, NO_TUPLES, at_place, each

SHUFFLE = (0, 2, 1, 3)
# Two bits, two rows: as few switches as lead from everyone to everyone.
NET = (2, (SHUFFLE,))
NETS = (
    (1, ()), (1, ((0, 1),)), (1, ((1, 0), (0, 1))), (1, ((1, 0), (0, 1), (1, 0))),
    (2, ()), NET, (2, ((3, 1, 2, 0),)), (2, (SHUFFLE, SHUFFLE)), (2, ((0, 1, 2, 3), (2, 0, 3, 1))),
    (2, (SHUFFLE, (1, 0, 3, 2), SHUFFLE)),
    (3, ()), (3, ((0, 2, 4, 6, 1, 3, 5, 7),)), (3, ((0, 2, 4, 6, 1, 3, 5, 7), (0, 4, 2, 6, 1, 5, 3, 7))),
)
SMALL_NETS = tuple(net for net in NETS if net[0] < 3)
OMEGA = (3, ((0, 4, 1, 5, 2, 6, 3, 7), (0, 4, 1, 5, 2, 6, 3, 7)))
GREAT = (3, (OMEGA[1][0], (7, 3, 5, 1, 0, 2, 4, 6), OMEGA[1][0]))


def random_net(random, bits):
    """A net of so many bits with none to three wirings."""
    many = 2 ** bits
    return bits, tuple(tuple(random.sample(range(many), many)) for _ in range(random.randrange(4)))


def some_nets(seed, many, bits=(1, 2, 3)):
    random = Random(seed)
    return [random_net(random, random.choice(bits)) for _ in range(many)]


WRONG_NETS = (
    at_place(NO_TUPLES + ((), (2,), (2, (), ()), [2, ()]), BadNet, ())
    + at_place([(value, (SHUFFLE,)) for value in NO_NUMBERS + (0, 4, -1, 10 ** 999)], BadNet, (0,))
    + at_place([(0, None), (True, [SHUFFLE])], BadNet, (0,))
    + at_place([(2, value) for value in NO_TUPLES + ([SHUFFLE], (SHUFFLE,) * 4)], BadNet, (1,))
    + at_place([(2, (value,)) for value in NO_TUPLES], BadNet, (1, 0))
    + at_place([(2, (SHUFFLE, value)) for value in NO_TUPLES], BadNet, (1, 1))
    + at_place([(2, (SHUFFLE, SHUFFLE, value, value)[:3]) for value in NO_TUPLES], BadNet, (1, 2))
    + at_place([(2, ((0, 1, 2, value), None)) for value in NO_NUMBERS + (0, 2, 4, -1, 10 ** 999)], BadNet, (1, 0))
    + at_place([(2, (SHUFFLE, (0, 1, 2))), (2, (SHUFFLE, (0, 1, 2, 3, 4))), (2, (SHUFFLE, ()))], BadNet, (1, 1))
    + at_place([(2, (list(SHUFFLE),)), (2, ((0, True, 2, 3),)), (2, ((False, 1, 2, 3),))], BadNet, (1, 0))
    + at_place([(1, (SHUFFLE,)), (3, (SHUFFLE, None)), (2, ((1, 2, 3, 4),))], BadNet, (1, 0))
)

ROW = (0, 1)
SETTINGS = ((0, 1), (1, 0))
WRONG_SETTINGS = (
    NO_TUPLES + ((), (ROW,), (ROW, ROW, ROW), [ROW, ROW], (ROW, [0, 1]), (ROW, None), (ROW, (0,)), (ROW, (0, 1, 0)))
    + (((0, 2), ROW), ((0, -1), ROW), (ROW, ()), (0, 1), ((0, 10 ** 999), ROW))
    + tuple((ROW, (0, value)) for value in NO_NUMBERS) + tuple((value, ROW) for value in NO_TUPLES)
)
WRONG_SENDERS = (
    NO_TUPLES + ([0, 1], (1, 0), (0, 0), (0, 4), (-1,), (0, 1, 2, 3, 3), (0, 10 ** 999))
    + tuple((value,) for value in NO_NUMBERS) + tuple((0, value) for value in NO_NUMBERS)
)
ROUND = (SETTINGS, (0, 1, 3))
WRONG_ROUNDS = (
    at_place(NO_TUPLES + ((), (SETTINGS,), (SETTINGS, (), ()), [SETTINGS, ()]), BadRound, None)
    + at_place([(value, (0, 1)) for value in WRONG_SETTINGS], BadRound, 0)
    + at_place([(value, None) for value in WRONG_SETTINGS[:4]], BadRound, 0)
    + at_place([(SETTINGS, value) for value in WRONG_SENDERS], BadRound, 1)
)

HEARING = (None, 3, 0, None)
WRONG_HEARINGS = each(
    NO_TUPLES + ((), HEARING[:3], (*HEARING, None), list(HEARING), (0, 0, None, None), (1, None, None, 1))
    + ((None, None, None, 4), (-1, None, None, None), (10 ** 999, None, None, None))
    + tuple((1, value, None, 0) for value in NO_NUMBERS if value is not None),
    BadHears, "value")

FIRST = ("broken", 0, 1)
LAST = ("stuck", 1, 1, 0)
FAULTS = (FIRST, LAST)
WRONG_FAULT = NO_TUPLES + (
    (), ("broken",), ("stuck",), ("broken", 0), ("broken", 0, 1, 0), ("stuck", 0, 1), ("stuck", 0, 1, 0, 0),
    ("broken", 3, 0), ("broken", -1, 0), ("broken", 0, 4), ("broken", 0, -1), ("stuck", 2, 0, 0), ("stuck", -1, 0, 0),
    ("stuck", 0, 2, 0), ("stuck", 0, -1, 0), ("stuck", 0, 0, 2), ("stuck", 0, 0, -1), ["broken", 0, 1], ("Broken", 0, 1),
    ("lost", 0, 1), ("broken", 10 ** 999, 0), (b"broken", 0, 1), (0, "broken", 1), ("stuck", 1, 1, True),
) + tuple((value, 0, 1) for value in NO_NUMBERS) + tuple(("broken", value, 1) for value in NO_NUMBERS) \
    + tuple(("broken", 1, value) for value in NO_NUMBERS) + tuple(("stuck", value, 1, 1) for value in NO_NUMBERS) \
    + tuple(("stuck", 1, value, 1) for value in NO_NUMBERS) + tuple(("stuck", 1, 1, value) for value in NO_NUMBERS)
WRONG_FAULTS = (
    at_place(NO_TUPLES + ([FIRST], [], FAULTS + (("stuck", 1, 1, 1),), (None, None, None)), BadFaults, None)
    + at_place([(value,) for value in WRONG_FAULT], BadFaults, 0)
    + at_place([(value, None) for value in WRONG_FAULT[:5]], BadFaults, 0)
    + at_place([(FIRST, value) for value in WRONG_FAULT], BadFaults, 1)
    + at_place([(FIRST, FIRST), (LAST, FIRST), (LAST, LAST), (LAST, ("stuck", 1, 1, 1))], BadFaults, 1)
    + at_place([(("stuck", 0, 0, 1), ("stuck", 0, 0, 0)), (("broken", 1, 1), ("broken", 0, 3))], BadFaults, 1)
)

WRONG_STATIONS = each(NO_NUMBERS + (-1, 4, 8, 10 ** 999), BadStation, "value")

WANTS = ((0, 0), (0, 3), (2, 1))
ALL_WANTS = tuple((one, other) for one in range(4) for other in range(4))
WRONG_WANTS = each(
    NO_TUPLES + (list(WANTS), ALL_WANTS[:11], ((0, 3), (0, 0)), ((0, 0), (0, 0)), ((0, 4),), ((-1, 0),), ((0,),))
    + (((0, 0, 0),), ([0, 0],), ((0, 0), None), ((0, 0), [0, 1]), (0, 1), ((1, 0), (1, 1), (1, 1)), ((),))
    + (((0, 10 ** 999),), ((0, 1), (0, 2), (0, 1)))
    + tuple(((0, 0), (value, 0)) for value in NO_NUMBERS) + tuple(((0, 0), (1, value)) for value in NO_NUMBERS),
    BadWants, "value")

# For each argument a good value, and wrong ones with what they are refused with.
PARAMS = {
    "net": (NET, WRONG_NETS),
    "settings": (SETTINGS, at_place(WRONG_SETTINGS, BadRound, 0)),
    "one_round": (ROUND, WRONG_ROUNDS),
    "hearing": (HEARING, WRONG_HEARINGS),
    "faults": (FAULTS, WRONG_FAULTS),
    "station": (0, WRONG_STATIONS),
    "one": (1, WRONG_STATIONS),
    "other": (2, WRONG_STATIONS),
    "wants": (WANTS, WRONG_WANTS),
}


def params(*names):
    """What Refusals.all_refusals asks for, for these arguments."""
    return [(name, *PARAMS[name]) for name in names]
