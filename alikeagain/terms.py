"""A language of kinds and rings: terms, and what they have."""

from alikeagain.errors import BadTerm
from alikeagain.nets import are_settings, is_station, need_net, stations_of
from alikeagain.rounds import are_senders
from alikeagain.trees import first_wrong, trees_in
from alikeagain.values import are_wholes, is_tuple, is_whole, power

KIND_SHAPES = (
    ("top", ("number",)), ("flags", ("number",)), ("pair", ("tree", "tree")), ("without", ("tree", "number")),
    ("reads", ("tree", "row")),
)
RING_SHAPES = (
    ("round", ("settings", "senders")), ("all", ("settings",)), ("then", ("tree", "tree")),
    ("times", ("tree", "number")), ("turn", ("tree", "number")), ("but", ("tree", "number")),
    ("both", ("tree", "tree")),
)
# The least and the greatest number that may stand last behind a word.
BOUNDS = {"top": (2, 8), "flags": (1, 3), "without": (0, 3), "times": (1, 6), "turn": (0, 5)}
MOST_KIND_WORDS = 8
DEEPEST_KIND = 2
MOST_RING_WORDS = 12
DEEPEST_RING = 4
MOST_STATES = 8
MOST_UPDATES = 4
MOST_ROUNDS = 6


def is_bounded(part):
    """Whether the number last in a part of a term is as its word wants it."""
    least, most = BOUNDS[part[0]]
    return is_whole(part[-1], least, most)


def is_kind_part(part):
    """Whether the integers of a KIND TERM are as told without any other TERM."""
    if part[0] == "reads":
        return is_tuple(part[2], 1, MOST_STATES) and are_wholes(part[2], 0, 9)
    return part[0] == "pair" or is_bounded(part)


def is_ring_part(net, part):
    """Whether what stands in a RING TERM is as told without any other TERM."""
    word = part[0]
    if word == "round":
        return are_settings(net, part[1]) and are_senders(net, part[2])
    if word == "all":
        return are_settings(net, part[1])
    if word == "but":
        return is_station(net, part[2])
    return word in ("then", "both") or is_bounded(part)


def need_form(wrong):
    """Nothing; a TERM of which something is wrong is refused, by the path to it, and whether it is too much."""
    if wrong is None:
        return
    path, is_surplus = wrong
    raise BadTerm(() if is_surplus else path)


def kind_of_top(many):
    """So many states that are counted up; the greater one is heard."""
    states = range(many)
    merge = tuple([tuple([max(one, other) for other in states]) for one in states])
    return 0, (tuple([min(state + 1, many - 1) for state in states]),), merge, tuple(states)


def kind_of_flags(many):
    """A state for each lot of so many flags, each put up by an update."""
    states = range(power(2, many))
    updates = tuple([tuple([state | power(2, flag) for state in states]) for flag in range(many)])
    return 0, updates, tuple([tuple([one | other for other in states]) for one in states]), tuple(states)


def kind_of_pair(one, other):
    """The KIND of pairs of a state of the one and a state of the other, or None if it has too many."""
    many = len(other[3])
    states = range(len(one[3]) * many)
    if len(states) > MOST_STATES or len(one[1]) + len(other[1]) > MOST_UPDATES:
        return None
    updates = [tuple([row[state // many] * many + state % many for state in states]) for row in one[1]]
    updates.extend([tuple([state - state % many + row[state % many] for state in states]) for row in other[1]])
    merge = []
    for state in states:
        first, second = one[2][state // many], other[2][state % many]
        merge.append(tuple([first[heard // many] * many + second[heard % many] for heard in states]))
    return one[0] * many + other[0], tuple(updates), tuple(merge), tuple(states)


def kind_without(kind, update):
    """A KIND without an update, or None if it has no other one, or not this one."""
    start, updates, merge, readings = kind
    if len(updates) < 2 or update >= len(updates):
        return None
    return start, updates[:update] + updates[update + 1:], merge, readings


def kind_reading(kind, row):
    """A KIND with a row for READ, or None if the row is not as long."""
    if len(row) != len(kind[3]):
        return None
    return *kind[:3], tuple(row)


def kind_by_word(term, kinds):
    """The KIND of a TERM by its own word, and by the KINDS of the TERMS in it, or None."""
    word = term[0]
    if word == "top":
        return kind_of_top(term[1])
    if word == "flags":
        return kind_of_flags(term[1])
    if word == "pair":
        return kind_of_pair(kinds[0], kinds[1])
    if word == "without":
        return kind_without(kinds[0], term[2])
    return kind_reading(kinds[0], term[2])


def kind_at(path, term):
    """The KIND of the TERM to which a path leads; the first one in it that has none is refused."""
    kinds = [kind_at((*path, at), inner) for at, inner in trees_in(KIND_SHAPES, term)]
    kind = kind_by_word(term, kinds)
    if kind is None:
        raise BadTerm(path)
    return kind


def turned_by(ring, many):
    """A RING begun with the round of a number, the ones ahead of it behind."""
    first = many % len(ring)
    return ring[first:] + ring[:first]


def ring_but(ring, station):
    """A RING in which a station does not send."""
    return tuple([(settings, tuple([one for one in senders if one != station])) for settings, senders in ring])


def ring_both(ring, other):
    """The rounds of two RINGS with the senders of both, or None if these have other settings."""
    if [settings for settings, _ in ring] != [settings for settings, _ in other]:
        return None
    found = []
    for one, two in zip(ring, other):
        found.append((one[0], tuple(sorted(set(one[1] + two[1])))))
    return tuple(found)


def short_ring(ring):
    """The rounds themselves, or None if they are too many."""
    return ring if len(ring) <= MOST_ROUNDS else None


def ring_by_word(net, term, rings):
    """The RING of a TERM by its own word, and by the RINGS of the TERMS in it, or None."""
    word = term[0]
    if word == "round":
        return (term[1:],)
    if word == "all":
        return ((term[1], tuple(range(stations_of(net)))),)
    if word == "then":
        return short_ring(rings[0] + rings[1])
    if word == "times":
        return short_ring(rings[0] * term[2])
    if word == "turn":
        return turned_by(rings[0], term[2])
    if word == "but":
        return ring_but(rings[0], term[2])
    return ring_both(rings[0], rings[1])


def ring_at(net, path, term):
    """The RING of the TERM to which a path leads; the first one in it that has none is refused."""
    rings = [ring_at(net, (*path, at), inner) for at, inner in trees_in(RING_SHAPES, term)]
    ring = ring_by_word(net, term, rings)
    if ring is None:
        raise BadTerm(path)
    return ring


def told_kind(kind_term):
    """The KIND of a KIND TERM; any other value is refused."""
    need_form(first_wrong(KIND_SHAPES, MOST_KIND_WORDS, DEEPEST_KIND, is_kind_part, kind_term))
    return kind_at((), kind_term)


def told_ring(net, ring_term):
    """The RING of a RING TERM for a net that is one; any other value is refused."""
    need_form(first_wrong(RING_SHAPES, MOST_RING_WORDS, DEEPEST_RING, lambda part: is_ring_part(net, part), ring_term))
    return ring_at(net, (), ring_term)


def need_kind_term(kind_term):
    """The KIND TERM itself, refused if it is none."""
    told_kind(kind_term)
    return kind_term


def need_ring_term(net, ring_term):
    """The RING TERM itself, refused if it is none."""
    need_net(net)
    told_ring(net, ring_term)
    return ring_term


def kind_of(kind_term):
    """The KIND of a KIND TERM."""
    return told_kind(kind_term)


def ring_of(net, ring_term):
    """The RING of a RING TERM."""
    need_net(net)
    return told_ring(net, ring_term)


def kind_terms_in(kind_term):
    """The tuple of the TERMS that stand in a KIND TERM itself."""
    need_kind_term(kind_term)
    return tuple([inner for _, inner in trees_in(KIND_SHAPES, kind_term)])


def ring_terms_in(net, ring_term):
    """The tuple of the TERMS that stand in a RING TERM itself."""
    need_ring_term(net, ring_term)
    return tuple([inner for _, inner in trees_in(RING_SHAPES, ring_term)])
