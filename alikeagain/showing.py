"""Showing: what is read of states, whatever is still heard, and the least kind."""

from alikeagain.joins import need_joins
from alikeagain.kinds import coming_of, merge_of
from alikeagain.order import above
from alikeagain.telling import all_lots, join_in, least_of, need_telling


def does_show(kind, state):
    """Whether a state shows what is read of it: of all that it is at most the same is read."""
    return all([kind[3][other] == kind[3][state] for other in above(kind, state)])


def showing(kind):
    """The ascending tuple of the states that show what is read of them."""
    need_joins(kind)
    return tuple([state for state in coming_of(kind) if does_show(kind, state)])


def lots_by(marks):
    """The ascending tuple of the lots of ascending states that have the same mark."""
    lots = {}
    for state in marks:
        lots.setdefault(marks[state], []).append(state)
    return tuple([tuple(lot) for lot in lots.values()])


def behind_hearing(kind, state):
    """What a state becomes when it hears each state that comes."""
    return [merge_of(kind, state, other) for other in coming_of(kind)]


def heard_alike(kind):
    """The lots of the states that are read alike whatever is heard."""
    need_joins(kind)
    marks = {}
    for state in coming_of(kind):
        # Hearing START leaves a state as it is, so what is read of itself is among these.
        marks[state] = tuple([kind[3][other] for other in behind_hearing(kind, state)])
    return lots_by(marks)


def numbers_of(lots):
    """For each state the number of its lot."""
    return {state: number for number, lot in enumerate(lots) for state in lot}


def finer_lots(kind, lots):
    """The lots parted by which lots their states get into by each update, and by hearing each state."""
    numbers = numbers_of(lots)
    marks = {}
    for state in coming_of(kind):
        behind = [state] + [row[state] for row in kind[1]] + behind_hearing(kind, state)
        marks[state] = tuple([numbers[other] for other in behind])
    return lots_by(marks)


def come_lots(kind):
    """The lots of the states that are read alike whatever comes."""
    lots = lots_by({state: kind[3][state] for state in coming_of(kind)})
    while True:
        finer = finer_lots(kind, lots)
        if len(finer) == len(lots):
            return lots
        lots = finer


def come_alike(kind):
    """The lots of the states that are read alike whatever comes."""
    need_joins(kind)
    return come_lots(kind)


def least_kind(kind):
    """The least kind: one state for each lot of those that are read alike whatever comes."""
    need_joins(kind)
    lots = come_lots(kind)
    numbers = numbers_of(lots)
    firsts = [lot[0] for lot in lots]
    updates = tuple([tuple([numbers[row[state]] for state in firsts]) for row in kind[1]])
    merge = tuple([tuple([numbers[merge_of(kind, one, other)] for other in firsts]) for one in firsts])
    return numbers[kind[0]], updates, merge, tuple([kind[3][state] for state in firsts])


def enough_lots(kind, stand):
    """The ascending tuple of the least lots that are enough to read a stand."""
    need_telling(kind, stand)
    shown = {state: does_show(kind, state) for state in coming_of(kind)}
    return least_of([lot for lot in all_lots(stand) if shown[join_in(kind, stand, lot)]])
