"""Relays and wrong values for the tests of relays, ranks, settling and runs."""

from random import Random

from alikeagain.errors import BadBook, BadKind, BadLog, BadNumber, BadRelay, BadStand, BadStation

from tests import kind_samples, nets_samples, plan_samples, slow
from tests.kind_samples import KIND, greatest
from tests.letter_samples import NO_STRINGS
from tests.nets_samples import NET
from tests.plan_samples import PLAN, random_plan
from tests.refusals import NO_NUMBERS, NO_TUPLES, at_place, each

# By two signs and one doubling the first two are mixed up, the last one with none.
BOOK = ("ab", "abab", "cd")
CLEAR = ("ab", "cd", "ef", "ba", "dc", "fe", "ac", "ca")
MIXED = ("ab", "abab", "ababab", "cd", "cdcd", "cdcdcd", "ef", "efef")
POOL = ("ab", "abab", "ababab", "cd", "cdcd", "ef", "ba", "dc", "fe", "a")
# By the three rounds of the ring all have news of all.
FULL = ((), tuple((settings, (0, 1, 2, 3)) for settings in (((0, 0), (1, 1)), ((1, 1), (0, 0)), ((0, 1), (1, 0)))))
RELAY = (NET, KIND, BOOK, 2, 1, PLAN)
# Whoever hears is at the last state he can be, whatever he heard: no kind that joins, but all are alike soon.
FORGET = (0, ((1, 1), (0, 1)), ((1, 1), (1, 1)), (0, 1))
# What is heard is taken over.
COPY = (0, ((1, 1),), ((0, 1), (0, 1)), (3, 4))
# Copies that hear each other turn about for ever.
SWAP = (0, ((1, 0),), ((1, 0), (1, 0)), (0, 1))


def some_books(random, many):
    """A book of so many texts, SIZE and TIMES: clear, mixed up, or any."""
    texts = random.choice((CLEAR, MIXED, POOL))
    book = tuple(texts[:many]) if random.random() < 0.4 else tuple(random.sample(texts, many))
    return book, random.choice((1, 2, 2, 3)), random.choice((0, 1, 1, 2, 4))


def relay_with(random, net, kind):
    """A relay of this net and this kind."""
    book, size, times = some_books(random, len(slow.close(kind)))
    return net, kind, book, size, times, random_plan(random, net, 2, 3)


def small_kind(random):
    """A kind of one to three states that come, whether it joins or not."""
    sort = random.choice(("joins", "nearly", "any", "own"))
    if sort == "own":
        return random.choice((FORGET, COPY, SWAP, KIND, greatest(2), greatest(3), kind_samples.SINGLE))
    while True:
        kind = kind_samples.random_kind(random, 3) if sort == "any" else kind_samples.joining_kind(random)
        if sort == "nearly":
            kind = kind_samples.changed_kind(random, kind)
        if len(slow.close(kind)) <= 3:
            return kind


def some_relays(seed, many, bits=(1, 1, 2)):
    """Pairs of a relay and faults, all small enough for tables."""
    random = Random(seed)
    found = []
    for _ in range(many):
        net = nets_samples.random_net(random, random.choice(bits))
        relay = relay_with(random, net, small_kind(random))
        found.append((relay, plan_samples.random_faults(random, net)))
    return found


def clear_relays(seed, many, bits=(1, 2)):
    """Pairs of a relay that mostly settles, and faults."""
    random = Random(seed)
    found = []
    for net, plan in plan_samples.dense_plans(seed, many, bits):
        kind = small_kind(random)
        book, size, times = some_books(random, len(slow.close(kind)))
        if random.random() < 0.7:
            book = CLEAR[:len(book)]
        found.append(((net, kind, book, size, times, plan), plan_samples.random_faults(random, net, 1)))
    return found


def mixed_relays(seed, many):
    """Pairs of a relay of which all states may be missed, and no faults."""
    random = Random(seed)
    found = []
    for net, plan in plan_samples.dense_plans(seed, many):
        kind = small_kind(random)
        found.append(((net, kind, ("ab", "abab", "ababab")[:len(slow.close(kind))], 2, 4, plan), ()))
    return found


def part_wrong(at, wrongs):
    """What is wrong with one part of a relay, all else being right."""
    return [((*RELAY[:at], value, *RELAY[at + 1:]), error, fields) for value, error, fields in wrongs]


def wrong_relays():
    sizes = each(NO_NUMBERS + (0, 5, -1, 10 ** 999), BadNumber, "value")
    times = each(NO_NUMBERS + (-1, 5, 10 ** 999), BadNumber, "value")
    books = at_place(NO_TUPLES + ((), ("ab",), BOOK[:2], (*BOOK, "ef"), ("ab",) * 9, list(BOOK)), BadBook, None)
    books += at_place([("ab", "cd", value) for value in NO_STRINGS + ("", "ag", "a" * 25, "ab")], BadBook, 2)
    # As many texts as KIND has states, but one more than come.
    books += at_place([("ab", "cd", "ef", "ba")], BadBook, None)
    return (
        at_place(NO_TUPLES + ((), RELAY[:5], (*RELAY, ()), list(RELAY)), BadRelay, "form", "part")
        + part_wrong(0, nets_samples.WRONG_NETS[::9])
        + part_wrong(1, kind_samples.WRONG_KINDS[::9])
        + part_wrong(2, books) + part_wrong(3, sizes) + part_wrong(4, times)
        + part_wrong(5, plan_samples.WRONG_PLANS[::9])
        + [((None, None, None, None, None, None), nets_samples.BadNet, {"place": ()})]
        + [((NET, None, None, None, None, None), BadKind, {"place": ()})]
        + [((NET, KIND, ("ab", "ab"), None, None, None), BadBook, {"place": 1})]
        + [((NET, KIND, BOOK, None, 9, None), BadNumber, {"value": None})]
        + [((NET, KIND, BOOK, 1, 9, None), BadNumber, {"value": 9})]
    )


WRONG_RELAYS = wrong_relays()
STAND = (0, 1, 2, 2)
WRONG_STANDS = each(
    NO_TUPLES + ((), STAND[:3], (*STAND, 0), list(STAND), (0, 1, 2, 3), (0, 1, 2, -1), (10 ** 999, 0, 0, 0))
    + tuple((0, value, 1, 1) for value in NO_NUMBERS), BadStand, "value")
# At the moment 2 the messages of 0, 1 and 3 come to somebody; the state 2 cannot be missed.
WRONG_UNREAD = each(
    NO_TUPLES + ([1], (2,), (3,), (1, 0), (1, 1), (0, 1, 3), (-1,), (1, 4), (10 ** 999,))
    + tuple((value,) for value in NO_NUMBERS), BadStation, "value")
# At the moment 2 of RELAY, from STAND on.
STEPS = (((), (1,)), (((0, 0), (2, 1)), ()), (((1, 1),), ()))
WRONG_STEP = NO_TUPLES + (
    (), ((),), ((), (), ()), [(), ()], ([], ()), ((), []), ((), (3,)), ((), (1, 1)), (((0, 0), (0, 1)), ()),
    (((1, 0), (0, 0)), ()), (((0, 2),), ()), (((0, -1),), ()), (((4, 0),), ()), (((-1, 0),), ()), (((0,),), ()),
    (((0, 0, 0),), ()), ((0, 0), ()), (([0, 0],), ()), (((0, 0), None), ()), ((), (4,)), ((), (-1,)), (((0, 10 ** 999),), ()),
    ((), None), (None, ()), (((0, 0), (0, 0)), ()),
) + tuple((((value, 0),), ()) for value in NO_NUMBERS) + tuple((((0, value),), ()) for value in NO_NUMBERS) \
    + tuple(((), (value,)) for value in NO_NUMBERS)
WRONG_STEPS = (
    at_place(NO_TUPLES + ([((), ())], (((), ()),) * 61, (None,) * 61), BadLog, None)
    + at_place([(value,) for value in WRONG_STEP], BadLog, 0)
    + at_place([(value, None) for value in WRONG_STEP[:5]], BadLog, 0)
    + at_place([(STEPS[0], ((), ()), value) for value in WRONG_STEP], BadLog, 2)
    + at_place([(((), ()),) * 59 + (None,)], BadLog, 59)
)

PARAMS = {
    "relay": (RELAY, WRONG_RELAYS),
    "faults": ((("stuck", 0, 0, 0),), nets_samples.WRONG_FAULTS[::9]),
    "moment": (2, each(NO_NUMBERS + (-1, 4, 12, 10 ** 999), BadNumber, "value")),
    "stand": (STAND, WRONG_STANDS),
    "unread": ((1,), WRONG_UNREAD),
    "after": (7, each(NO_NUMBERS + (-1, 101, 10 ** 999), BadNumber, "value")),
    "many": (7, each(NO_NUMBERS + (-1, 61, 10 ** 999), BadNumber, "value")),
    "steps": (STEPS, WRONG_STEPS),
}


def params(*names, **others):
    """What Refusals.all_refusals asks for, for these arguments; others tell other keys for a name."""
    return [(name, *PARAMS[others.get(name, name)]) for name in names]
