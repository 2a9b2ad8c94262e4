"""Live relays, acts and wrong values for the tests of live relays and desks."""

from random import Random

from alikeagain.errors import BadFaults, BadLetters, BadNumber, BadStation
from alikeagain.live import Live

from tests import nets_samples, relay_samples, slow
from tests.kind_samples import KIND
from tests.nets_samples import NET
from tests.plan_samples import ALL, CROSS, STRAIGHT
from tests.refusals import NO_NUMBERS, NO_TUPLES, each
from tests.relay_samples import STAND, clear_relays, some_relays
from tests.slow_live import SlowLive

# At the moment 0 the stations 0, 1 and 3 send, at 1 all do, at 2 nobody does.
PLAN = (((CROSS, (0, 1, 3)),), ((STRAIGHT, ALL), (CROSS, ())))
# The first two texts are mixed up by one doubling, the last one can be doubled at one place alone.
RELAY = (NET, KIND, ("ab", "abab", "cd"), 2, 2, PLAN)
FAULT = ("broken", 1, 3)
STUCK = ("stuck", 0, 0, 1)


def start(moment=0, stand=STAND):
    return Live(RELAY, moment, stand)


def doubled_wrong(value):
    """What is no DOUBLED because of one value as its PLACES."""
    return ((0, value),)


# From STAND on: the states are 0, 1, 2, 2, so the messages "ab", "abab", "cd", "cd".
WRONG_DOUBLED = each(
    NO_TUPLES + ([(0, (0,))], ((0, (0,)), (0, (0,))), ((1, (0,)), (0, (0,))), ((2, (0,)),), ((4, (0,)),), ((-1, (0,)),), ((0,),))
    + (((0, (0,), ()),), ([0, (0,)],), (0, (0,)), ((0, (0,)), None), ((0, (0,)), (1, ())), ((0, (0, 0, 0)),), ((0, ()),), ((),))
    + (((0, (1,)),), ((0, (-1,)),), ((0, (0, 3)),), ((1, (3,)),), ((0, [0]),), ((10 ** 999, (0,)),), ((0, (10 ** 999,)),))
    + (((0, (0,)), (1, (0,)), (2, (0,)), (3, (0,))), ((0, (0,)), (3, (1,))))
    + tuple(doubled_wrong(value) for value in NO_TUPLES)
    + tuple(doubled_wrong((value,)) for value in NO_NUMBERS) + tuple(doubled_wrong((0, value)) for value in NO_NUMBERS)
    + tuple(((value, (0,)),) for value in NO_NUMBERS),
    BadLetters, "value")
GOOD_DOUBLED = (((0, (0,)),), ((0, (0, 2)),), ((0, (0, 1)), (1, (2, 4)), (3, (0, 2))), ((1, (0,)),), ((3, (0,)),), ())
NO_FAULT = nets_samples.WRONG_FAULT + ((FAULT,), ((),), STUCK[:3], (*STUCK, 0), (*FAULT, 0), list(FAULT))
WRONG_PUT = each(NO_FAULT, BadFaults, "place")
PARAMS = {
    "relay": (RELAY, relay_samples.WRONG_RELAYS[::3]),
    "moment": (2, each(NO_NUMBERS + (-1, 3, 10 ** 999), BadNumber, "value")),
    "stand": (STAND, relay_samples.WRONG_STANDS),
    "station": (3, each(NO_NUMBERS + (-1, 4, 10 ** 999), BadStation, "value")),
    "number": (1, each(NO_NUMBERS + (-1, 2, 10 ** 999), BadNumber, "value")),
    "doubled": (((0, (0, 2)), (3, (0,))), WRONG_DOUBLED),
    "put": (FAULT, WRONG_PUT),
}


def params(*names, **others):
    """What Refusals.all_refusals asks for, for these arguments; others tell other keys for a name."""
    return [(name, *PARAMS[others.get(name, name)]) for name in names]


def some_lives(seed, many):
    """Triples of a live relay, one kept by other means, and the random numbers for both."""
    random = Random(seed)
    found = []
    for relay, _ in some_relays(seed, many) + clear_relays(seed, many):
        stand = tuple(random.choice(slow.close(relay[1])) for _ in slow.stations(relay[0]))
        moment = random.randrange(len(relay[5][0]) + len(relay[5][1]))
        found.append((Live(relay, moment, stand), SlowLive(relay, moment, stand), random))
    return found


def random_act(random, slow_live):
    """The word of an act that can be done, and its arguments."""
    word = random.choice(("go", "go", "go", "go", "update", "update", "put", "heal", "undo"))
    if word == "update":
        return word, (random.choice(list(slow.stations(slow_live.relay[0]))), random.randrange(len(slow_live.relay[1][1])))
    if word == "put" and slow_live.can_put():
        return word, (random.choice(slow_live.can_put()),)
    if word == "heal" and slow_live.now["faults"]:
        return word, (random.choice(sorted(slow_live.now["faults"])),)
    if word == "undo":
        return word, ()
    return "go", (slow_live.random_doubled(random),)
