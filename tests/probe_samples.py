"""Tests of nets and wrong values for the tests of probes, naming and what was seen."""

from random import Random

from alikeagain.errors import BadNumber, BadSeen, BadTest

from tests import kind_samples, nets_samples, slow
from tests.kind_samples import KIND
from tests.nets_samples import NET, ROUND, WRONG_ROUNDS
from tests.plan_samples import random_faults, random_round
from tests.refusals import NO_NUMBERS, NO_TUPLES, at_place, each
from tests.relay_samples import STAND, WRONG_STANDS

# Of each kind whether a state changes by hearing itself, by hearing another one: all four that there can be.
QUIET = (0, ((1, 0),), ((0, 0), (1, 1)), (0, 1))
OWN = (0, ((1, 0),), ((1, 1), (0, 0)), (0, 1))
OTHERS = kind_samples.greatest(2)
BOTH = (0, ((1, 2, 0),), ((1, 0, 2), (1, 1, 0), (2, 2, 2)), (0, 1, 2))
TEST = (ROUND, STAND)
NO_SERIES = tuple(value for value in NO_TUPLES if not isinstance(value, list))
WRONG_TEST = (
    at_place(NO_TUPLES + ((), (ROUND,), (ROUND, STAND, ()), [ROUND, STAND]), BadTest, "form")
    + at_place([(value, STAND) for value, _, _ in WRONG_ROUNDS[::3]], BadTest, "round")
    + at_place([(value, None) for value in NO_TUPLES[:3]], BadTest, "round")
    + at_place([(ROUND, value) for value, _, _ in WRONG_STANDS], BadTest, "stand")
)
NO_TESTS = tuple(value for value, _, _ in WRONG_TEST)


def wrong_rows(good, wrongs, error_class):
    """What is wrong with a list or tuple of at most 20 things, the good one being one of these."""
    return (
        at_place(NO_SERIES + ((good,) * 21, [good] * 21, [None] * 21), error_class, None)
        + at_place([(value,) for value in wrongs], error_class, 0)
        + at_place([[value, None] for value in wrongs[:9]], error_class, 0)
        + at_place([[good, good, value] for value in wrongs[::5]], error_class, 2)
        + at_place([(*[good] * 19, value) for value in wrongs[::9]], error_class, 19)
    )


SIGHT = (TEST, (2, 1, 2, 0))
NO_SIGHTS = NO_TUPLES + ((), (TEST,), (*SIGHT, ()), list(SIGHT)) + tuple((value, STAND) for value in NO_TESTS[::3]) \
    + tuple((TEST, value) for value, _, _ in WRONG_STANDS) + ((None, None), (TEST, SIGHT))

PARAMS = {
    "net": (NET, nets_samples.WRONG_NETS[::9]),
    "kind": (KIND, kind_samples.WRONG_KINDS[::7]),
    "faults": ((("broken", 1, 3),), nets_samples.WRONG_FAULTS[::9]),
    "one": ((("broken", 1, 3),), nets_samples.WRONG_FAULTS[::7]),
    "other": ((("stuck", 0, 0, 1), ("stuck", 1, 1, 1)), nets_samples.WRONG_FAULTS[::5]),
    "test": (TEST, WRONG_TEST),
    "tests": ((TEST, TEST), wrong_rows(TEST, NO_TESTS, BadTest)),
    "most": (1, each(NO_NUMBERS + (-1, 3, 10 ** 999), BadNumber, "value")),
    "seen": ((SIGHT,), wrong_rows(SIGHT, NO_SIGHTS, BadSeen)),
}


def params(*names):
    """What Refusals.all_refusals asks for, for these arguments."""
    return [(name, *PARAMS[name]) for name in names]


def some_kind(random):
    """A kind of few states, whether it joins or not."""
    while True:
        kind = random.choice((QUIET, OWN, OTHERS, BOTH, KIND, kind_samples.SINGLE, kind_samples.random_kind(random, 3),
                              kind_samples.joining_kind(random)))
        if len(slow.close(kind)) <= 3:
            return kind


def some_tests(random, net, kind, many):
    """So many tests, in which most stations send."""
    states = slow.close(kind)
    return [(random_round(random, net), tuple(random.choice(states) for _ in slow.stations(net))) for _ in range(many)]


def small_nets(random):
    """A net of few switches."""
    if random.random() < 0.6:
        return nets_samples.random_net(random, 1)
    bits, wirings = nets_samples.random_net(random, 2)
    return bits, wirings[:random.randint(0, 1)]


def some_probes(seed, many):
    """Quadruples of a net, a kind, tests and MOST, all few enough."""
    random = Random(seed)
    found = []
    for _ in range(many):
        net = small_nets(random)
        kind = some_kind(random)
        most = random.choice((0, 1, 1, 2) if net[0] == 1 else (0, 1, 1))
        found.append((net, kind, tuple(some_tests(random, net, kind, random.choice((0, 1, 2, 4, 6)))), most))
    return found


def some_seen(seed, many):
    """Quadruples of a net, a kind, what was seen, and MOST: what some faults show, perhaps with something otherwise."""
    random = Random(seed)
    found = []
    for net, kind, _, most in some_probes(seed, many):
        faults = random_faults(random, net, 2)
        row = some_tests(random, net, kind, random.choice((0, 1, 2, 3, 5)))
        pairs = []
        for test in row:
            told = slow_outcome(net, kind, faults, test)
            if random.random() < 0.1:
                told = tuple(random.choice(slow.close(kind)) for _ in told)
            pairs.append((test, told))
        found.append((net, kind, random.choice((tuple, list))(pairs), most))
    return found


def slow_outcome(net, kind, faults, test):
    """The outcome of a test, station by station."""
    one_round, stand = test
    heard = slow.hears(net, one_round, faults)
    return tuple(own if heard[at] is None else kind[2][own][stand[heard[at]]] for at, own in enumerate(stand))
