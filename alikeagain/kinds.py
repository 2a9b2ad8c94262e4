"""Kinds: states, updates, merging, and the makings by which states come."""

from alikeagain.errors import BadKind, BadNumber, BadPaper, BadState
from alikeagain.values import are_wholes, is_headed, is_tuple, is_whole

MOST_STATES = 8
MOST_UPDATES = 4
MOST_ROWS = 30


def are_states(value, many):
    """Whether a value is a tuple with one state for each of so many states."""
    return is_tuple(value, many, many) and are_wholes(value, 0, many - 1)


def need_readings(readings):
    """READ of a kind, refused if it is none."""
    if not is_tuple(readings, 1, MOST_STATES):
        raise BadKind((3,))
    for number, reading in enumerate(readings):
        if not is_whole(reading, 0, 9):
            raise BadKind((3, number))
    return readings


def need_rows(rows, place, many):
    """Some rows at a place of a kind, each with one state for each state, refused otherwise."""
    for number, row in enumerate(rows):
        if not are_states(row, many):
            raise BadKind((place, number))
    return rows


def need_kind(kind):
    """The kind itself, refused if it is none."""
    if not is_tuple(kind, 4, 4):
        raise BadKind(())
    start, updates, merge, readings = kind
    many = len(need_readings(readings))
    if not is_whole(start, 0, many - 1):
        raise BadKind((0,))
    if not is_tuple(updates, 1, MOST_UPDATES):
        raise BadKind((1,))
    need_rows(updates, 1, many)
    if not is_tuple(merge, many, many):
        raise BadKind((2,))
    need_rows(merge, 2, many)
    return kind


def merge_of(kind, one, other):
    """What a state becomes when it hears another one."""
    return kind[2][one][other]


def made_beside(kind, updates, states):
    """What each state becomes by these updates, and when it hears each one of them."""
    done = [kind[1][update][state] for state in states for update in updates]
    return done + [merge_of(kind, one, other) for one in states for other in states]


def coming_by(kind, updates):
    """The ascending tuple of the states that come by these updates alone, and by hearing."""
    states = [kind[0]]
    while True:
        wider = sorted(set(states + made_beside(kind, updates, states)))
        if len(wider) == len(states):
            return tuple(wider)
        states = wider


def all_updates(kind):
    """The numbers of all updates of a kind."""
    return tuple(range(len(kind[1])))


def coming_of(kind):
    """The ascending tuple of the states that come."""
    return coming_by(kind, all_updates(kind))


def is_coming(kind, value):
    """Whether a value is a state that comes."""
    return is_whole(value, 0, MOST_STATES - 1) and value in coming_of(kind)


def need_coming(kind, state):
    """The state itself, refused if it is none that comes."""
    if not is_coming(kind, state):
        raise BadState(state)
    return state


def need_state(kind, state):
    """The state itself, refused if it is none that comes."""
    need_kind(kind)
    return need_coming(kind, state)


def need_update(kind, update):
    """The number of an update itself, refused if it is none."""
    if not is_whole(update, 0, len(kind[1]) - 1):
        raise BadNumber(update)
    return update


def coming(kind):
    """The ascending tuple of the states that come."""
    need_kind(kind)
    return coming_of(kind)


def merged(kind, one, other):
    """What the one state becomes when it hears the other."""
    need_kind(kind)
    need_coming(kind, one)
    need_coming(kind, other)
    return merge_of(kind, one, other)


def updated(kind, state, update):
    """What a state becomes by an update."""
    need_state(kind, state)
    need_update(kind, update)
    return kind[1][update][state]


def read(kind, state):
    """What is read of a state."""
    need_state(kind, state)
    return kind[3][state]


def is_making_row(kind, number, row):
    """Whether a value can be the row of a making with this number."""
    if not is_headed(row, "do", 3) and not is_headed(row, "hear", 3):
        return False
    if not is_whole(row[1], -1, number - 1):
        return False
    if row[0] == "do":
        return is_whole(row[2], 0, len(kind[1]) - 1)
    return is_whole(row[2], -1, number - 1)


def can_make(kind, value):
    """Whether any value is a making."""
    if not is_tuple(value, 0, MOST_ROWS):
        return False
    return all([is_making_row(kind, number, row) for number, row in enumerate(value)])


def is_making(kind, value):
    """Whether any value is a making."""
    need_kind(kind)
    return can_make(kind, value)


def state_at(kind, states, place):
    """The state of the row of a making, START for -1."""
    if place == -1:
        return kind[0]
    return states[place]


def states_made(kind, making):
    """The tuple of the states of the rows of a making."""
    states = []
    for word, place, other in making:
        state = state_at(kind, states, place)
        if word == "do":
            states.append(kind[1][other][state])
        else:
            states.append(merge_of(kind, state, state_at(kind, states, other)))
    return tuple(states)


def made(kind, making):
    """The tuple of the states of the rows of a making."""
    need_kind(kind)
    if not can_make(kind, making):
        raise BadPaper("making")
    return states_made(kind, making)


def rows_beside(kind, states):
    """The rows that can follow those that make these states, START ahead of them all."""
    places = range(-1, len(states) - 1)
    done = [("do", place, update) for place in places for update in all_updates(kind)]
    return done + [("hear", one, other) for one in places for other in places]


def least_makings(kind):
    """For each state that comes a making with as few rows as can be."""
    found = {kind[0]: ()}
    makings = [()]
    seen = {(kind[0],): True}
    while makings:
        longer = []
        for making in makings:
            states = (kind[0], *states_made(kind, making))
            for row in rows_beside(kind, states):
                wider = (*making, row)
                state = states_made(kind, wider)[-1]
                lot = tuple(sorted((*states, state)))
                # What makings can go on to make, the states of their rows tell alone.
                if state in states or lot in seen:
                    continue
                seen[lot] = True
                found.setdefault(state, wider)
                longer.append(wider)
        makings = longer
    return found


def making_of(kind, state):
    """A making with as few rows as can be whose last row makes the state."""
    need_state(kind, state)
    return least_makings(kind)[state]


def fewest_rows(kind, state):
    """How many rows a making at least has whose last row makes the state, 0 of START."""
    return len(making_of(kind, state))


def trimmed(kind):
    """The kind of the states that come alone, numbered anew in their order."""
    states = coming(kind)
    start, updates, merge, readings = kind
    fewer = tuple([tuple([states.index(row[state]) for state in states]) for row in updates])
    lesser = tuple([tuple([states.index(merge[one][other]) for other in states]) for one in states])
    return states.index(start), fewer, lesser, tuple([readings[state] for state in states])
