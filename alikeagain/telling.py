"""Telling: of which stations the states tell the join of a whole stand."""

from alikeagain.errors import BadNumber, BadStand
from alikeagain.hearing import need_stand
from alikeagain.joins import lots_of, need_joins
from alikeagain.kinds import coming_of, need_coming
from alikeagain.order import is_at_most, join_of
from alikeagain.values import is_lot, is_whole, power

MOST_COUNTED = 1000


def need_telling(kind, stand):
    """Nothing; a kind that does not join, or no stand, is refused."""
    need_joins(kind)
    need_stand(kind, stand)


def join_in(kind, stand, lot):
    """The join of the states of a lot of the stations of a stand."""
    return join_of(kind, [stand[station] for station in lot])


def tells(kind, stand, lot):
    """Whether a lot tells a stand."""
    return join_in(kind, stand, lot) == join_of(kind, stand)


def all_lots(stand):
    """All lots of the stations of a stand, perhaps of none."""
    return lots_of(list(range(len(stand))))


def lacking_one(lot):
    """The lots with all numbers of a lot but one."""
    return [lot[:at] + lot[at + 1:] for at in range(len(lot))]


def least_of(lots):
    """The ascending tuple of the least ones of some lots, each wider lot being among them, too."""
    known = {lot: True for lot in lots}
    # As each wider lot is among them, a lesser one with a number less is, if any lesser one is.
    return tuple(sorted([lot for lot in lots if not any([fewer in known for fewer in lacking_one(lot)])]))


def telling_lots(kind, stand):
    """All lots that tell a stand."""
    return [lot for lot in all_lots(stand) if tells(kind, stand, lot)]


def stand_join(kind, stand):
    """The join of the states of a stand."""
    need_telling(kind, stand)
    return join_of(kind, stand)


def does_tell(kind, stand, lot):
    """Whether a lot tells a stand."""
    need_telling(kind, stand)
    if not is_lot(lot, len(stand) - 1):
        raise BadStand(lot)
    return tells(kind, stand, lot)


def least_lots(kind, stand):
    """The ascending tuple of all least lots that tell a stand."""
    need_telling(kind, stand)
    return least_of(telling_lots(kind, stand))


def fewest_lot(kind, stand):
    """Of the lots with as few stations as can be that tell a stand the first one."""
    need_telling(kind, stand)
    return min(telling_lots(kind, stand), key=lambda lot: (len(lot), lot))


def needed(kind, stand):
    """The lot of the stations that are in each lot that tells a stand."""
    need_telling(kind, stand)
    others = lacking_one(tuple(range(len(stand))))
    return tuple([station for station, lot in enumerate(others) if not tells(kind, stand, lot)])


def lower_states(kind, state):
    """The states that are at most a state, itself among them."""
    return [other for other in coming_of(kind) if is_at_most(kind, other, state)]


def counts_by_join(kind, many):
    """For each state that comes how many stands of so many stations have it as their join."""
    lower = {state: lower_states(kind, state) for state in coming_of(kind)}
    counts = {}
    # A state has more states below it than each of these has.
    for state in sorted(lower, key=lambda one: len(lower[one])):
        lesser = [counts[other] for other in lower[state] if other != state]
        counts[state] = power(len(lower[state]), many) - sum(lesser)
    return counts


def stand_count(kind, many, state):
    """How many stands of so many stations have the join state."""
    need_joins(kind)
    if not is_whole(many, 1, MOST_COUNTED):
        raise BadNumber(many)
    need_coming(kind, state)
    return counts_by_join(kind, many)[state]
