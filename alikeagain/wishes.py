"""Wishes about all runs: whether they hold, by what number, and which messages they need."""

from alikeagain.errors import BadStand, BadWish
from alikeagain.paths import levels_past, levels_to, on_rings, ring_numbers
from alikeagain.ranks import all_pairs
from alikeagain.relays import missed_states, need_faulty, need_relay, need_small, relay_hears
from alikeagain.sayings import are_spots, is_so_at, laters_at, need_may, need_said, wrong_saying
from alikeagain.trees import is_shaped, shape_of, tree_places
from alikeagain.values import is_tuple, is_whole

WISH_SHAPES = (
    ("always", ("tree",)), ("later", ("tree",)), ("until", ("tree", "tree")), ("again", ("tree",)), ("last", ("tree",)),
    ("within", ("number", "tree")), ("from", ("number", "tree")),
)
MOST_WITHIN = 60
MOST_WISHES = 8
# Of these all spots to which runs come have to have a number, of the others those of BEGIN.
LASTING = ("always", "again", "last")


def wrong_wish(relay, value):
    """The path to the first part of a value that is no wish, or None."""
    if not is_shaped(WISH_SHAPES, value):
        return ()
    if value[0] in ("within", "from") and not is_whole(value[1], 0, MOST_WITHIN):
        return ()
    for at in tree_places(shape_of(WISH_SHAPES, value[0])):
        path = wrong_saying(relay, value[at])
        if path is not None:
            return at, *path
    return None


def need_wished(relay, wish):
    """The wish itself, refused if it is none for a relay that is one."""
    path = wrong_wish(relay, wish)
    if path is not None:
        raise BadWish(path)
    return wish


def need_wish(relay, wish):
    """The wish itself, refused if it is none."""
    need_relay(relay)
    return need_wished(relay, wish)


def need_begun(relay, faults, may, begin):
    """Nothing; the first of these arguments that is wrong is refused."""
    need_faulty(relay, faults)
    need_may(relay, may)
    if begin is not None and not are_spots(relay, (begin,)):
        raise BadStand(begin)


def need_few(relay, faults, may):
    """Nothing; a relay is refused of which there are too many steps, all choices of updates counted."""
    choices = 1
    stations = [station for station, _ in may]
    for station in sorted(set(stations)):
        choices *= 1 + stations.count(station)
    need_small(relay, faults, choices)


def begins_of(relay, begin):
    """The list of the spots of BEGIN."""
    return all_pairs(relay) if begin is None else [begin]


def steps_from(relay, faults, may, begin):
    """For each spot to which runs come its LATERS."""
    table = relay_hears(relay, faults)
    missed = missed_states(relay)
    steps = {}
    level = begins_of(relay, begin)
    while level:
        fresh = {}
        for spot in level:
            steps[spot] = laters_at(relay, table, missed, may, spot)
            for later in steps[spot]:
                fresh[later] = True
        level = [spot for spot in fresh if spot not in steps]
    return steps


def spots_so(kind, steps, saying):
    """Those of some spots at which a saying is so."""
    return {spot: True for spot in steps if is_so_at(kind, spot, saying)}


def spots_not_so(kind, steps, saying):
    """Those of some spots at which a saying is not so."""
    return spots_so(kind, steps, ("not", saying))


def numbers_last(steps, wrong):
    """For each spot a number that no step makes greater, and one from a wrong spot less; none of these on rings."""
    numbers = ring_numbers(steps)
    rings = on_rings(steps, numbers)
    return {spot: numbers[spot] for spot in steps if spot not in wrong or spot not in rings}


def numbers_of(kind, steps, wish):
    """For each spot that has one the number by which it fulfils its part of a wish."""
    word = wish[0]
    so = spots_so(kind, steps, wish[-1])
    wrong = {spot: True for spot in steps if spot not in so}
    if word == "always":
        return {spot: 0 for spot in so}
    if word == "last":
        return numbers_last(steps, wrong)
    if word == "from":
        return levels_past(steps, wrong)
    if word == "until":
        barred = spots_not_so(kind, steps, ("or", wish[1], wish[2]))
        return levels_to(steps, so, barred)
    return levels_to(steps, so, {})


def first_failing(steps, begins, wish, numbers):
    """The first spot by whose number a wish does not hold, of which one may tell, or None."""
    spots = list(steps) if wish[0] in LASTING else begins
    for spot in spots:
        if spot not in numbers:
            return spot
        if wish[0] in ("within", "from") and numbers[spot] > wish[1]:
            return spot
    return None


def does_hold(relay, steps, begin, wish):
    """Whether a wish holds from BEGIN, by the LATERS of all spots to which runs come."""
    return first_failing(steps, begins_of(relay, begin), wish, numbers_of(relay[1], steps, wish)) is None


def holds_from(relay, faults, may, begin, wish):
    """Whether a wish holds from BEGIN, if there are not too many steps."""
    need_few(relay, faults, may)
    return does_hold(relay, steps_from(relay, faults, may, begin), begin, wish)


def wish_holds(relay, faults, may, begin, wish):
    """Whether a wish holds from BEGIN."""
    need_begun(relay, faults, may, begin)
    need_wished(relay, wish)
    return holds_from(relay, faults, may, begin, wish)


def least_number(relay, faults, may, begin, word, saying):
    """The least N by which a wish with this word and this saying holds, or None."""
    need_begun(relay, faults, may, begin)
    need_said(relay, saying)
    need_few(relay, faults, may)
    numbers = numbers_of(relay[1], steps_from(relay, faults, may, begin), (word, 0, saying))
    found = [numbers.get(spot) for spot in begins_of(relay, begin)]
    return None if None in found else max(found)


def least_within(relay, faults, may, begin, saying):
    """The least N by which ("within", N, SAYING) holds, or None."""
    return least_number(relay, faults, may, begin, "within", saying)


def least_from(relay, faults, may, begin, saying):
    """The least N by which ("from", N, SAYING) holds, or None."""
    return least_number(relay, faults, may, begin, "from", saying)


def need_wishes(relay, wishes):
    """The tuple of wishes itself, refused if it is none."""
    if not is_tuple(wishes, 1, MOST_WISHES):
        raise BadWish(None)
    for number, wish in enumerate(wishes):
        path = wrong_wish(relay, wish)
        if path is not None:
            raise BadWish((number, *path))
    return wishes


def which_hold(relay, faults, may, begin, wishes):
    """The ascending tuple of the numbers of those wishes that hold from BEGIN."""
    need_begun(relay, faults, may, begin)
    need_wishes(relay, wishes)
    need_few(relay, faults, may)
    steps = steps_from(relay, faults, may, begin)
    return tuple([number for number, wish in enumerate(wishes) if does_hold(relay, steps, begin, wish)])


def messages_heard(table):
    """The ascending list of all messages that come to somebody, by whom each station hears at each moment."""
    found = [(moment, sender) for moment, heard in enumerate(table) for sender in heard if sender is not None]
    return sorted(found)


def table_without(table, message):
    """Whom each station hears at each moment, if a message is not sent."""
    moment, sender = message
    heard = tuple([None if other == sender else other for other in table[moment]])
    return (*table[:moment], heard, *table[moment + 1:])


def steps_without(relay, table, may, steps, message):
    """The LATERS of all spots, if a message is not sent."""
    lesser = table_without(table, message)
    missed = missed_states(relay)
    found = {}
    for spot in steps:
        changed = spot[0] == message[0]
        found[spot] = laters_at(relay, lesser, missed, may, spot) if changed else steps[spot]
    return found


def needed_messages(relay, faults, may, wish):
    """The ascending tuple of all messages that a wish needs; None if it does not hold from None."""
    need_begun(relay, faults, may, None)
    need_wished(relay, wish)
    need_few(relay, faults, may)
    steps = steps_from(relay, faults, may, None)
    if not does_hold(relay, steps, None, wish):
        return None
    table = relay_hears(relay, faults)
    found = []
    # What comes to nobody is not needed.
    for message in messages_heard(table):
        if not does_hold(relay, steps_without(relay, table, may, steps, message), None, wish):
            found.append(message)
    return tuple(found)
