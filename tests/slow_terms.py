"""What the document tells of terms, found by other means: kinds of named states, rings of sets of senders."""

from itertools import product

from tests import slow
from tests.slow import is_int

KIND_INNER = {"top": (), "flags": (), "pair": (1, 2), "without": (1,), "reads": (1,)}
RING_INNER = {"round": (), "all": (), "then": (1, 2), "times": (1,), "turn": (1,), "but": (1,), "both": (1, 2)}
MANY = {"top": 2, "flags": 2, "pair": 3, "without": 3, "reads": 3, "round": 3, "all": 2, "then": 3, "times": 3,
        "turn": 3, "but": 3, "both": 3}


class NoTerm(Exception):
    """A term that is none, with the path to what is wrong."""


def walk(value, inner, most, deepest, is_part):
    """Raise NoTerm if some part is none by itself, these in their order."""
    count = [0]

    def visit(part, path):
        count[0] += 1
        if count[0] > most or len(path) > deepest:
            raise NoTerm(())
        shaped = isinstance(part, tuple) and part and type(part[0]) is str and part[0] in inner
        if not shaped or len(part) != MANY[part[0]] or not is_part(part):
            raise NoTerm(path)
        for at in inner[part[0]]:
            visit(part[at], (*path, at))

    visit(value, ())


def is_kind_part(part):
    bounds = {"top": (2, 8), "flags": (1, 3), "without": (0, 3)}
    if part[0] in bounds:
        return is_int(part[-1], *bounds[part[0]])
    if part[0] == "reads":
        row = part[2]
        return isinstance(row, tuple) and 1 <= len(row) <= 8 and all(is_int(item, 0, 9) for item in row)
    return True


def is_ring_part(net, part):
    many = 2 ** net[0]
    if part[0] in ("round", "all"):
        # Two values with one repr are the same here, True being no 1.
        if repr(part[1]) not in settings_told(net):
            return False
        if part[0] == "all":
            return True
        lot = part[2]
        return isinstance(lot, tuple) and all(is_int(item, 0, many - 1) for item in lot) and list(lot) == sorted(set(lot))
    if part[0] == "but":
        return is_int(part[2], 0, many - 1)
    bounds = {"times": (1, 6), "turn": (0, 5)}
    return part[0] not in bounds or is_int(part[2], *bounds[part[0]])


KNOWN = {}


def settings_told(net):
    if net not in KNOWN:
        KNOWN[net] = {repr(settings) for settings in slow.all_settings(net)}
    return KNOWN[net]


def named_kind(term, path=()):
    """A kind of named states: the names in their order, the first one, updates, merging, what is read."""
    word = term[0]
    if word == "top":
        names = list(range(term[1]))
        return names, 0, [lambda name: min(name + 1, term[1] - 1)], max, {name: name for name in names}
    if word == "flags":
        names = [frozenset(flag for flag in range(term[1]) if number >> flag & 1) for number in range(2 ** term[1])]
        ups = [lambda name, flag=flag: name | {flag} for flag in range(term[1])]
        return names, frozenset(), ups, frozenset.union, {name: number for number, name in enumerate(names)}
    names, start, ups, merge, reads = named_kind(term[1], (*path, 1))
    if word == "reads":
        if len(term[2]) != len(names):
            raise NoTerm(path)
        return names, start, ups, merge, dict(zip(names, term[2]))
    if word == "without":
        if len(ups) < 2 or term[2] >= len(ups):
            raise NoTerm(path)
        return names, start, [up for number, up in enumerate(ups) if number != term[2]], merge, reads
    others, begin, more, meet, _ = named_kind(term[2], (*path, 2))
    both = list(product(names, others))
    if len(both) > 8 or len(ups) + len(more) > 4:
        raise NoTerm(path)
    rows = [lambda name, up=up: (up(name[0]), name[1]) for up in ups]
    rows += [lambda name, up=up: (name[0], up(name[1])) for up in more]
    told = {name: number for number, name in enumerate(both)}
    return both, (start, begin), rows, lambda one, two: (merge(one[0], two[0]), meet(one[1], two[1])), told


def kind_of(term):
    """The kind of a kind term, or NoTerm is raised."""
    walk(term, KIND_INNER, 8, 2, is_kind_part)
    names, start, ups, merge, reads = named_kind(term)
    number = {name: at for at, name in enumerate(names)}
    updates = tuple(tuple(number[up(name)] for name in names) for up in ups)
    table = tuple(tuple(number[merge(one, two)] for two in names) for one in names)
    return number[start], updates, table, tuple(reads[name] for name in names)


def rows_of(net, term, path=()):
    """The rounds of a ring term, each a pair of settings and a set of senders."""
    word = term[0]
    if word == "round":
        return [(term[1], set(term[2]))]
    if word == "all":
        return [(term[1], set(slow.stations(net)))]
    first = rows_of(net, term[1], (*path, 1))
    second = rows_of(net, term[2], (*path, 2)) if word in ("then", "both") else []
    if word == "then":
        found = first + second
    elif word == "times":
        found = [one for _ in range(term[2]) for one in first]
    elif word == "turn":
        found = [first[(at + term[2]) % len(first)] for at in range(len(first))]
    elif word == "but":
        found = [(settings, senders - {term[2]}) for settings, senders in first]
    else:
        if len(first) != len(second) or any(one[0] != two[0] for one, two in zip(first, second)):
            raise NoTerm(path)
        found = [(one[0], one[1] | two[1]) for one, two in zip(first, second)]
    if len(found) > 6:
        raise NoTerm(path)
    return found


def ring_of(net, term):
    """The ring of a ring term, or NoTerm is raised."""
    walk(term, RING_INNER, 12, 4, lambda part: is_ring_part(net, part))
    return tuple((settings, tuple(sorted(senders))) for settings, senders in rows_of(net, term))


def told(function, *args):
    """What a function tells, or in a list the path that NoTerm has been raised with."""
    try:
        return function(*args)
    except NoTerm as error:
        return [error.args[0]]
