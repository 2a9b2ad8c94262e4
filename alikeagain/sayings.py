"""Sayings about a moment and a stand, and where steps with updates lead."""

from alikeagain.errors import BadNumber, BadSaying, BadStand
from alikeagain.kinds import coming_of
from alikeagain.nets import is_station, stations_of
from alikeagain.plans import is_moment, moment_behind, need_moment
from alikeagain.ranks import are_all_same
from alikeagain.relays import is_relay_stand, later_pairs, missed_states, need_faulty, need_relay, relay_hears
from alikeagain.relays import states_behind
from alikeagain.runs import is_doing
from alikeagain.trees import first_wrong
from alikeagain.values import ascends, is_tuple, is_whole

SAYING_SHAPES = (
    ("alike", ()), ("same", ("number", "number")), ("has", ("number", "number")), ("reads", ("number", "number")),
    ("moment", ("number",)), ("not", ("tree",)), ("and", ("tree", "tree")), ("or", ("tree", "tree")),
)
MOST_SAID = 12
DEEPEST_SAID = 4
MOST_MAY = 4


def is_saying_part(relay, part):
    """Whether the numbers of a saying are as its word wants them."""
    word = part[0]
    if word == "moment":
        return is_moment(relay[5], part[1])
    if word not in ("same", "has", "reads"):
        return True
    if not is_station(relay[0], part[1]):
        return False
    if word == "same":
        return is_station(relay[0], part[2]) and part[1] != part[2]
    return is_whole(part[2], 0, 9 if word == "reads" else len(relay[1][3]) - 1)


def wrong_saying(relay, value):
    """The path to the first part of a value that is no saying, or None."""
    wrong = first_wrong(SAYING_SHAPES, MOST_SAID, DEEPEST_SAID, lambda part: is_saying_part(relay, part), value)
    return None if wrong is None else wrong[0]


def need_said(relay, saying):
    """The saying itself, refused if it is none for a relay that is one."""
    path = wrong_saying(relay, saying)
    if path is not None:
        raise BadSaying(path)
    return saying


def need_saying(relay, saying):
    """The saying itself, refused if it is none."""
    need_relay(relay)
    return need_said(relay, saying)


def is_so_at(kind, spot, saying):
    """Whether a saying is so at a spot."""
    word = saying[0]
    moment, stand = spot
    if word == "alike":
        return are_all_same(stand)
    if word == "moment":
        return moment == saying[1]
    if word == "same":
        return stand[saying[1]] == stand[saying[2]]
    if word == "has":
        return stand[saying[1]] == saying[2]
    if word == "reads":
        return kind[3][stand[saying[1]]] == saying[2]
    if word == "not":
        return not is_so_at(kind, spot, saying[1])
    if word == "and":
        return is_so_at(kind, spot, saying[1]) and is_so_at(kind, spot, saying[2])
    return is_so_at(kind, spot, saying[1]) or is_so_at(kind, spot, saying[2])


def need_place(relay, moment, stand):
    """Nothing; a moment, or a stand, that is none is refused."""
    need_moment(relay[5], moment)
    if not is_relay_stand(relay, stand):
        raise BadStand(stand)


def is_so(relay, moment, stand, saying):
    """Whether a saying is so at a moment and a stand."""
    need_relay(relay)
    need_place(relay, moment, stand)
    need_said(relay, saying)
    return is_so_at(relay[1], (moment, stand), saying)


def is_spot(relay, states, value):
    """Whether a value is a spot, by the states that come."""
    many = stations_of(relay[0])
    if not is_tuple(value, 2, 2) or not is_moment(relay[5], value[0]) or not is_tuple(value[1], many, many):
        return False
    return all([is_whole(state, 0, states[-1]) and state in states for state in value[1]])


def are_spots(relay, values):
    """Whether all of some values are spots."""
    states = coming_of(relay[1])
    return all([is_spot(relay, states, value) for value in values])


def need_may(relay, may):
    """MAY itself, refused if it is none."""
    if not is_tuple(may, 0, MOST_MAY) or not all([is_doing(relay, pair) for pair in may]) or not ascends(may):
        raise BadNumber(may)
    return may


def stands_done(kind, may, stand):
    """The stands that can be behind none or one of its updates at each station."""
    found = [()]
    for station, state in enumerate(stand):
        ends = {state: True}
        for at, update in may:
            if at == station:
                ends[kind[1][update][state]] = True
        found = [(*done, end) for done in found for end in ends]
    return found


def laters_at(relay, table, missed, may, spot):
    """The ascending list of the spots to which a step leads, by whom each hears, and what may be missed."""
    found = {}
    for done in stands_done(relay[1], may, spot[1]):
        for later in later_pairs(relay, table, missed, (spot[0], done)):
            found[later] = True
    return sorted(found)


def can_hear_so(kind, heard, missed, done, stand):
    """Whether a round can lead from one stand to another one."""
    for station, sender in enumerate(heard):
        state = done[station]
        ends = [state] if sender is None else states_behind(kind, state, done[sender], missed)
        if stand[station] not in ends:
            return False
    return True


def is_later(relay, table, missed, may, spot, later):
    """Whether a step leads from a spot to another one."""
    if later[0] != moment_behind(relay[5], spot[0], 1):
        return False
    rows = stands_done(relay[1], may, spot[1])
    return any([can_hear_so(relay[1], table[spot[0]], missed, done, later[1]) for done in rows])


def laters_by(relay, faults, may, moment, stand):
    """The ascending tuple of the spots to which a step by MAY leads."""
    need_faulty(relay, faults)
    need_may(relay, may)
    need_place(relay, moment, stand)
    return tuple(laters_at(relay, relay_hears(relay, faults), missed_states(relay), may, (moment, stand)))
