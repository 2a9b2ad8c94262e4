"""Plans and wrong values for the tests of plans, news and delays."""

from random import Random

from alikeagain.errors import BadNumber, BadPlan

from tests import nets_samples, slow
from tests.nets_samples import NET, ROUND, SETTINGS, SHUFFLE, WRONG_ROUNDS
from tests.refusals import NO_NUMBERS, NO_TUPLES, at_place, each

ALL = (0, 1, 2, 3)
CROSS = ((1, 1), (1, 1))
STRAIGHT = ((0, 0), (0, 0))
# Ahead: nobody sends. In the ring everyone is heard, by one and by the other half.
PLAN = (((CROSS, ()),), ((((0, 0), (1, 1)), ALL), (((1, 0), (0, 0)), (0, 1, 3)), (CROSS, ALL)))
SMALL = (1, ())
TURN = (((1,),), (0, 1))
KEEP = (((0,),), (0, 1))
GO = (((1,),), (0,))
COME = (((1,),), (1,))
NOBODY = (((0,),), ())
# A net with a doubling plan, one without.
DOUBLING = (2, (SHUFFLE, SHUFFLE))


def random_settings(random, net):
    return tuple(tuple(random.randrange(2) for _ in range(2 ** net[0] // 2)) for _ in range(len(net[1]) + 1))


def random_round(random, net):
    """A round of a net in which most stations send, or any ones."""
    likely = random.choice((0.5, 0.9, 1))
    return random_settings(random, net), tuple(one for one in range(2 ** net[0]) if random.random() < likely)


def random_plan(random, net, ahead=3, ring=4):
    rounds = [random_round(random, net) for _ in range(random.randint(0, ahead) + random.randint(1, ring))]
    at = random.randint(max(0, len(rounds) - ring), min(ahead, len(rounds) - 1))
    return tuple(rounds[:at]), tuple(rounds[at:])


def random_faults(random, net, most=2):
    """Faults of a net, at most so many, perhaps none."""
    many = random.randint(0, most)
    return random.choice([faults for faults in slow.all_faults(net) if len(faults) == many])


def some_plans(seed, many, bits=(1, 2, 2, 3), most=2):
    """Triples of a net, a plan for it, and faults."""
    random = Random(seed)
    found = []
    for _ in range(many):
        net = nets_samples.random_net(random, random.choice(bits))
        found.append((net, random_plan(random, net), random_faults(random, net, most)))
    return found


def dense_plans(seed, many, bits=(1, 2, 2)):
    """Pairs of a net and a plan for it with a longer ring in which most stations send."""
    random = Random(seed)
    found = []
    for _ in range(many):
        net = nets_samples.random_net(random, random.choice(bits))
        everyone = tuple(range(2 ** net[0]))
        ring = tuple((random_settings(random, net), everyone) for _ in range(random.randint(2, 5)))
        found.append((net, ((), (*ring, random_round(random, net)))))
    return found


def longest(bits, ahead=6, ring=6):
    """A net and a plan in which news goes to one station more in each ring, and that as late as can be."""
    many = 2 ** bits
    net = (bits, ((*range(1, many), 0),))
    straight = ((0,) * (many // 2),) * 2
    nobody = (straight, ())
    return net, ((nobody,) * ahead, (nobody,) * (ring - 1) + ((straight, tuple(range(many))),))


def wrong_plans():
    ahead, ring = PLAN
    rounds = tuple(value for value, _, _ in WRONG_ROUNDS)
    return (
        at_place(NO_TUPLES + ((), (ahead,), (ahead, ring, ()), list(PLAN), ring), BadPlan, ())
        + at_place([(value, ring) for value in NO_TUPLES + ((ROUND,) * 7, list(ahead))], BadPlan, (0,))
        + at_place([(value, None) for value in NO_TUPLES[:3]], BadPlan, (0,))
        + at_place([((value,), ring) for value in rounds], BadPlan, (0, 0))
        + at_place([((ROUND, ROUND, value, None), None) for value in rounds[::7]], BadPlan, (0, 2))
        + at_place([(ahead, value) for value in NO_TUPLES + ((), (ROUND,) * 7, list(ring))], BadPlan, (1,))
        + at_place([((), value) for value in NO_TUPLES[:3] + ((),)], BadPlan, (1,))
        + at_place([(ahead, (value,)) for value in rounds], BadPlan, (1, 0))
        + at_place([(ahead, (*[ROUND] * 5, value)) for value in rounds[::7]], BadPlan, (1, 5))
        + at_place([((), (ROUND, (SETTINGS, (4,)), None))], BadPlan, (1, 1))
        + at_place([((), (TURN,))], BadPlan, (1, 0))
    )


WRONG_PLANS = wrong_plans()

PARAMS = dict(nets_samples.PARAMS)
PARAMS.update({
    "net": (NET, nets_samples.WRONG_NETS[::3]),
    "plan": (PLAN, WRONG_PLANS),
    "faults": ((("broken", 1, 3),), nets_samples.WRONG_FAULTS[::5]),
    "moment": (3, each(NO_NUMBERS + (-1, 4, 5, 10 ** 999), BadNumber, "value")),
    "turn": (2, each(NO_NUMBERS + (-1, 7, 10 ** 999), BadNumber, "value")),
    "many": (9, each(NO_NUMBERS + (-1, 101, 10 ** 999), BadNumber, "value")),
})


def params(*names, **others):
    """What Refusals.all_refusals asks for, for these arguments; others tell other keys for a name."""
    return [(name, *PARAMS[others.get(name, name)]) for name in names]
