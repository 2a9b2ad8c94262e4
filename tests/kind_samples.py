"""Kinds and wrong values for their tests."""

from random import Random

from alikeagain.errors import BadKind, BadNumber, BadStand, BadState

from tests import slow
from tests.refusals import NO_NUMBERS, NO_TUPLES, at_place, each


def greatest(many):
    """The kind of so many states that are counted up; the greater one is heard."""
    states = range(many)
    merge = tuple(tuple(max(one, other) for other in states) for one in states)
    return 0, (tuple(min(state + 1, many - 1) for state in states),), merge, tuple(states)


def flags(many):
    """The kind of so many flags that are put up, one by each update."""
    states = range(2 ** many)
    updates = tuple(tuple(state | 2 ** flag for state in states) for flag in range(many))
    return 0, updates, tuple(tuple(one | other for other in states) for one in states), tuple(states)


# START is 1, 0 is reached by the update 1 alone, 3 does not come.
KIND = (1, ((2, 2, 2, 0), (0, 0, 2, 3)), ((0, 0, 2, 3), (0, 1, 2, 3), (2, 2, 2, 3), (3, 3, 3, 1)), (5, 0, 9, 5))
SINGLE = (0, ((0,),), ((0,),), (9,))
# Three states, and each breaks the rule of its name, the others not, or as few as can be.
NO_START = (0, ((1, 1),), ((0, 0), (0, 1)), (0, 1))
NO_TWICE = (0, ((1, 1, 2),), ((0, 1, 2), (1, 2, 2), (2, 2, 2)), (0, 1, 2))
NO_TURN = (0, ((1, 2, 2),), ((0, 1, 2), (1, 1, 1), (2, 2, 2)), (0, 1, 2))
NO_GROUP = (0, ((1, 2, 3, 3),), ((0, 1, 2, 3), (1, 1, 2, 1), (2, 2, 2, 3), (3, 1, 3, 3)), (0, 1, 2, 3))
BREAKING = {"start": NO_START, "twice": NO_TWICE, "turn": NO_TURN, "group": NO_GROUP}
# Two bottoms below two that have no least one in common but the top.
CROWN = (0, ((1, 1, 2, 3, 3), (2, 1, 2, 4, 4)), ((0, 1, 2, 3, 4), (1, 1, 3, 3, 4), (2, 3, 2, 3, 4), (3, 3, 3, 3, 4),
                                                 (4, 4, 4, 4, 4)), (0, 1, 2, 3, 4))
# Of eight states just four come.
HALF = (0, flags(3)[1][1:], flags(3)[2], (0, 0, 1, 1, 2, 2, 3, 3))
KINDS = (KIND, SINGLE, NO_START, NO_TWICE, NO_TURN, NO_GROUP, CROWN, HALF, greatest(2), greatest(5), greatest(8)) \
    + tuple(flags(many) for many in (1, 2, 3))


def random_kind(random, most=4):
    """Any kind of at most so many states."""
    many = random.randint(1, most)
    row = lambda: tuple(random.randrange(many) for _ in range(many))
    updates = tuple(row() for _ in range(random.randint(1, 4)))
    return random.randrange(many), updates, tuple(row() for _ in range(many)), row()


def closed_lots(random):
    """An ascending list of masks that has each mask that two of them make up."""
    lots = {0} | {random.randrange(8) for _ in range(random.randint(1, 5))}
    lots |= {one | other for one in lots for other in lots}
    lots |= {one | other for one in lots for other in lots}
    return random.sample(sorted(lots), len(lots))


def joining_kind(random):
    """A kind that joins, its states being some masks in some order, 0 being START."""
    lots = closed_lots(random)
    merge = tuple(tuple(lots.index(one | other) for other in lots) for one in lots)
    row = lambda: tuple(random.randrange(len(lots)) for _ in lots)
    updates = tuple(row() for _ in range(random.randint(1, 4)))
    return lots.index(0), updates, merge, tuple(random.randrange(10) for _ in lots)


def changed_kind(random, kind):
    """A kind with one place of MERGE otherwise."""
    many = len(kind[3])
    one, other, state = (random.randrange(many) for _ in range(3))
    merge = [list(row) for row in kind[2]]
    merge[one][other] = state
    return kind[0], kind[1], tuple(map(tuple, merge)), kind[3]


def some_kinds(seed, many):
    """Kinds that join, kinds that hardly do, and any ones."""
    random = Random(seed)
    found = list(KINDS)
    for _ in range(many):
        kind = joining_kind(random)
        found += [kind, changed_kind(random, kind), random_kind(random)]
    return found


def joining_kinds(seed, many):
    """Those of some kinds that join."""
    return [kind for kind in some_kinds(seed, many) if not slow.broken(kind, slow.close(kind))]


def wrong_kinds():
    start, updates, merge, readings = KIND
    row = updates[0]
    rows = NO_TUPLES + ((), row[:3], (*row, 0), list(row), (0, 1, 2, 4), (0, 1, -1, 2), (10 ** 999, 0, 0, 0)) \
        + tuple((0, value, 0, 0) for value in NO_NUMBERS)
    return (
        at_place(NO_TUPLES + ((), KIND[:3], (*KIND, ()), list(KIND)), BadKind, ())
        + at_place([(start, updates, merge, value) for value in NO_TUPLES], BadKind, (3,))
        + at_place([(start, updates, merge, value) for value in ((), (0,) * 9, list(readings))], BadKind, (3,))
        + at_place([(None, None, None, value) for value in NO_TUPLES[:4]], BadKind, (3,))
        + at_place([(start, updates, merge, (0, 0, value, 0)) for value in NO_NUMBERS], BadKind, (3, 2))
        + at_place([(9, None, 0, (10, -1)), (9, None, 0, (-1,)), (0, 0, 0, (10 ** 999,))], BadKind, (3, 0))
        + at_place([(value, updates, merge, readings) for value in NO_NUMBERS + (-1, 4, 10 ** 999)], BadKind, (0,))
        + at_place([(value, None, None, readings) for value in (None, 4)], BadKind, (0,))
        + at_place([(start, value, merge, readings) for value in NO_TUPLES + ((), (row,) * 5, [row])], BadKind, (1,))
        + at_place([(start, value, None, readings) for value in (None, ())], BadKind, (1,))
        + at_place([(start, (value,), merge, readings) for value in rows], BadKind, (1, 0))
        + at_place([(start, (row, row, row, value), None, readings) for value in rows], BadKind, (1, 3))
        + at_place([(start, updates, value, readings) for value in NO_TUPLES + ((), merge[:3], list(merge))], BadKind, (2,))
        + at_place([(start, updates, (*merge, row), readings), (0, ((0,),), (), (0,))], BadKind, (2,))
        + at_place([(start, updates, (value, *merge[1:]), readings) for value in rows], BadKind, (2, 0))
        + at_place([(start, updates, (*merge[:3], value), readings) for value in rows], BadKind, (2, 3))
        + at_place([(start, updates, (row, None, 0, row), readings)], BadKind, (2, 1))
    )


WRONG_KINDS = wrong_kinds()
NOT_JOINING = [(kind, BadKind, {"place": rule}) for rule, kind in BREAKING.items()]
WRONG_STATES = NO_NUMBERS + (-1, 3, 4, 8, 10 ** 999)
STAND = (0, 1, 2, 2, 1)
WRONG_STANDS = NO_TUPLES + ((), STAND * 3, (0,) * 13, list(STAND)) + tuple((0, value, 1) for value in WRONG_STATES)
WRONG_LOTS = NO_TUPLES + ([0, 2], (2, 0), (0, 0), (0, 5), (-1, 0), (0, 1, 2, 3, 4, 5), (0, 10 ** 999), ((0,),)) \
    + tuple((0, value) for value in NO_NUMBERS) + tuple((value,) for value in NO_NUMBERS)

PARAMS = {
    "kind": (KIND, WRONG_KINDS),
    "state": (0, each(WRONG_STATES, BadState, "value")),
    "one": (1, each(WRONG_STATES, BadState, "value")),
    "other": (2, each(WRONG_STATES, BadState, "value")),
    "update": (1, each(NO_NUMBERS + (-1, 2, 4, 10 ** 999), BadNumber, "value")),
    "stand": (STAND, each(WRONG_STANDS, BadStand, "value")),
    "lot": ((0, 2, 4), each(WRONG_LOTS, BadStand, "value")),
    "many": (3, each(NO_NUMBERS + (-1, 0, 1001, 10 ** 999), BadNumber, "value")),
    "states": ((2, 0, 2), each(
        NO_TUPLES + ([2], (0,) * 61, (3,), (0, 1, 2, 3)) + tuple((0, value) for value in WRONG_STATES),
        BadState, "value")),
}


def params(*names, joins=False):
    """What Refusals.all_refusals asks for, for these arguments."""
    found = [(name, *PARAMS[name]) for name in names]
    if joins:
        found[0] = ("kind", KIND, WRONG_KINDS + NOT_JOINING)
    return found
