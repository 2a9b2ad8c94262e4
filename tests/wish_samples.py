"""Sayings, wishes, MAY and wrong values for the tests of sayings, wishes and papers on these."""

from random import Random

from alikeagain.errors import BadNumber, BadSaying, BadStand, BadWish

from tests import relay_samples, slow, slow_relays, slow_wishes
from tests.refusals import NO_NUMBERS, NO_TUPLES, at_place, each
from tests.relay_samples import RELAY, STAND, WRONG_STANDS

ALIKE = ("alike",)
# Of RELAY: KIND has the states 0 to 3, two updates, the plan four moments.
SIMPLE = (("alike",), ("same", 0, 3), ("has", 1, 3), ("reads", 2, 9), ("moment", 3))
WRONG_SIMPLE = NO_TUPLES + (
    (), ("alike", 0), ("alike", ALIKE), ("same",), ("same", 0), ("same", 0, 1, 2), ("same", 1, 1), ("same", 0, 4),
    ("same", 4, 0), ("same", -1, 0), ("has", 0), ("has", 0, 4), ("has", 0, -1), ("has", 4, 0), ("has", 0, 1, 0),
    ("reads", 0), ("reads", 0, 10), ("reads", 0, -1), ("reads", 4, 0), ("moment",), ("moment", 4), ("moment", -1),
    ("moment", 0, 0), ("not",), ("not", ALIKE, ALIKE), ("and", ALIKE), ("and",), ("or", ALIKE), ("or", ALIKE, ALIKE, ALIKE),
    ["alike"], ("Alike",), ("nor", ALIKE), (None,), ((),), (("alike",),), (b"alike",), ("always", ALIKE), (0,), ("",),
    ("moment", 10 ** 999), ("has", 0, 10 ** 999),
) + tuple(("same", value, 0) for value in NO_NUMBERS) + tuple(("same", 0, value) for value in NO_NUMBERS) \
    + tuple(("has", value, 0) for value in NO_NUMBERS) + tuple(("has", 0, value) for value in NO_NUMBERS) \
    + tuple(("reads", value, 0) for value in NO_NUMBERS) + tuple(("reads", 0, value) for value in NO_NUMBERS) \
    + tuple(("moment", value) for value in NO_NUMBERS)


def nots(saying, many):
    """A saying within so many others."""
    for _ in range(many):
        saying = ("not", saying)
    return saying


# Twelve words, the last one within four others, and thirteen: the last one is none, whatever it is.
FOUR = ("and", ("or", ALIKE, ALIKE), ALIKE)
TWELVE = ("or", ("and", FOUR, ("not", ALIKE)), ("not", nots(ALIKE, 1)))
TWELVE_DEEP = ("or", ("and", FOUR, ALIKE), nots(ALIKE, 3))
THIRTEEN = ("or", ("and", FOUR, ("not", ALIKE)), ("not", ("or", ALIKE, ALIKE)))


def wrong_sayings():
    """Wrong sayings, each with the path to the first part that is none."""
    found = [(value, ()) for value in WRONG_SIMPLE]
    found += [(("not", value), (1,)) for value in WRONG_SIMPLE]
    found += [(("and", ALIKE, value), (2,)) for value in WRONG_SIMPLE[::2]]
    found += [(("or", value, None), (1,)) for value in WRONG_SIMPLE[::2]]
    found += [(("or", ("and", ALIKE, value), None), (1, 2)) for value in WRONG_SIMPLE[::3]]
    found += [(("or", ("not", ALIKE), ("and", value, None)), (2, 1)) for value in WRONG_SIMPLE[::3]]
    # Within five others even what is a saying by itself is none.
    found += [(nots(value, 5), (1,) * 5) for value in (ALIKE, None, ("moment", 0), nots(ALIKE, 9))]
    found += [(nots(value, 4), (1,) * 4) for value in WRONG_SIMPLE[::3]]
    found += [(THIRTEEN, (2, 1, 2)), (("or", ("and", FOUR, ("not", ALIKE)), ("not", ("or", ALIKE, None))), (2, 1, 2))]
    found += [(("or", ("and", FOUR, None), THIRTEEN), (1, 2)), (("and", THIRTEEN, None), (1, 1, 1, 1, 1))]
    return found


def wrong_wishes():
    """Wrong wishes, each with the path to the first part that is none."""
    whole = NO_TUPLES + WRONG_SIMPLE[-60::7] + (
        (), ALIKE, ("always",), ("always", ALIKE, ALIKE), ("later",), ("until", ALIKE), ("until", ALIKE, ALIKE, ALIKE),
        ("again",), ("last",), ("within", ALIKE), ("within", 3), ("within", ALIKE, 3), ("from", 0, ALIKE, ALIKE),
        ("from",), ("Always", ALIKE), ["always", ALIKE], (b"always", ALIKE), ("within", 61, ALIKE), ("from", -1, ALIKE),
        ("from", 61, None), ("within", -1, None), ("from", 10 ** 999, ALIKE), (None, ALIKE), ((), ()), ("", ALIKE),
    ) + tuple(("within", value, ALIKE) for value in NO_NUMBERS) + tuple(("from", value, ALIKE) for value in NO_NUMBERS)
    found = [(value, ()) for value in whole]
    sayings = wrong_sayings()[::6]
    for word in ("always", "later", "again", "last"):
        found += [((word, value), (1, *path)) for value, path in sayings]
    found += [(("until", value, None), (1, *path)) for value, path in sayings]
    found += [(("until", TWELVE, value), (2, *path)) for value, path in sayings]
    found += [(("within", 60, value), (2, *path)) for value, path in sayings]
    found += [(("from", 0, value), (2, *path)) for value, path in sayings]
    return found


WRONG_SAYINGS = wrong_sayings()
WRONG_WISHES = wrong_wishes()
SAYING = ("or", ("same", 0, 1), ("not", ("reads", 2, 9)))
WISH = ("within", 3, SAYING)
MAY = ((2, 1),)
NO_TUPLES_BUT_NONE = tuple(value for value in NO_TUPLES if value is not None)
WRONG_MAY = (
    NO_TUPLES + (((0, 0), (0, 1), (1, 0), (1, 1), (2, 0)), [(0, 0)], ((0, 1), (0, 0)), ((0, 0), (0, 0)), ((4, 0),))
    + (((-1, 0),), ((0, 2),), ((0, -1),), ((0,),), ((0, 0, 0),), ([0, 0],), ((),), (0, 0), ((1, 0), (0, 1)), ((0, 0), None))
    + tuple(((value, 0),) for value in NO_NUMBERS) + tuple(((0, value),) for value in NO_NUMBERS)
)
SPOT = (2, STAND)
NO_SPOTS = NO_TUPLES + ((), (0,), (0, STAND, 0), [0, STAND], (4, STAND), (-1, STAND), (STAND, 0), (10 ** 999, STAND)) \
    + tuple((0, value) for value, _, _ in WRONG_STANDS) + tuple((value, STAND) for value in NO_NUMBERS)
WRONG_BEGIN = tuple(value for value in NO_SPOTS if value is not None)


def wrong_rows(empty):
    """What is no tuple of at most 4,000 spots, not () either if that is asked for."""
    found = NO_TUPLES + ([SPOT], (SPOT,) * 4001, SPOT) + tuple((value,) for value in NO_SPOTS)
    found += tuple((SPOT, value) for value in NO_SPOTS[::3])
    return found + (((),) if empty else ())


PARAMS = dict(relay_samples.PARAMS)
PARAMS.update({
    "relay": (RELAY, relay_samples.WRONG_RELAYS[::11]),
    "faults": ((("stuck", 0, 0, 0),), relay_samples.PARAMS["faults"][1][::3]),
    "may": (MAY, each(WRONG_MAY, BadNumber, "value")),
    "begin": (SPOT, each(WRONG_BEGIN, BadStand, "value")),
    "saying": (SAYING, [(value, BadSaying, {"path": path}) for value, path in WRONG_SAYINGS]),
    "wish": (WISH, [(value, BadWish, {"path": path}) for value, path in WRONG_WISHES]),
    "few_wishes": (WISH, [(value, BadWish, {"path": path}) for value, path in WRONG_WISHES[::9]]),
    "wishes": ((WISH, WISH), (
        at_place(NO_TUPLES + ((), (WISH,) * 9, [WISH], (None,) * 9), BadWish, None, "path")
        + [((WISH, value), BadWish, {"path": (1, *path)}) for value, path in WRONG_WISHES[::5]]
        + [((value, None), BadWish, {"path": (0, *path)}) for value, path in WRONG_WISHES[::7]]
        + [((*[WISH] * 7, value), BadWish, {"path": (7, *path)}) for value, path in WRONG_WISHES[::9]])),
    "ahead": ((SPOT, SPOT), each(wrong_rows(False), BadStand, "value")),
    "loop": ((SPOT,), each(wrong_rows(True), BadStand, "value")),
})


def params(*names, **others):
    """What Refusals.all_refusals asks for, for these arguments; others tell other keys for a name."""
    return [(name, *PARAMS[others.get(name, name)]) for name in names]


def random_saying(random, relay):
    """A saying for a relay."""
    while True:
        saying = any_saying(random, relay, 3)
        if slow_wishes.wrong_part(relay, saying) is None:
            return saying


def any_saying(random, relay, deep):
    """What may be a saying for a relay, if it has not too many words."""
    word = random.choice(("alike", "alike", "same", "has", "reads", "moment", "not", "and", "or"))
    stations = list(slow.stations(relay[0]))
    if word in ("not", "and", "or") and deep > 0:
        return (word, *[any_saying(random, relay, deep - 1) for _ in range(1 if word == "not" else 2)])
    if word == "same":
        return word, *random.sample(stations, 2)
    if word == "has":
        return word, random.choice(stations), random.choice(slow.close(relay[1]))
    if word == "reads":
        return word, random.choice(stations), random.choice(relay[1][3])
    if word == "moment":
        return word, random.choice(slow_relays.moments(relay))
    return ("alike",)


def random_wish(random, relay):
    word = random.choice(("always", "later", "until", "again", "last", "within", "from"))
    if word == "until":
        return word, random_saying(random, relay), random_saying(random, relay)
    if word in ("within", "from"):
        return word, random.choice((0, 1, 2, 3, 5, 60)), random_saying(random, relay)
    return word, random_saying(random, relay)


def random_may(random, relay):
    """MAY for a relay, mostly of few updates."""
    pairs = [(station, update) for station in slow.stations(relay[0]) for update in range(len(relay[1][1]))]
    return tuple(sorted(random.sample(pairs, min(len(pairs), random.choice((0, 0, 1, 1, 2, 3, 4))))))


def some_wishing(seed, many, most=100):
    """Relays with faults, MAY, and a table of the LATERS of all spots, which are few."""
    random = Random(seed)
    found = []
    samples = relay_samples.some_relays(seed, 3 * many, (1, 1, 1, 2)) + relay_samples.clear_relays(seed, 2 * many, (1,))
    for relay, faults in random.sample(samples, len(samples)):
        if len(found) < many and len(slow_wishes.all_spots(relay)) <= most:
            may = random_may(random, relay)
            few = random.choice((faults, ()))
            found.append((relay, few, may, slow_wishes.table(relay, few, may)))
    return found
