"""The order of the states of a kind that joins: joins, bricks, chains."""

from alikeagain.errors import BadState
from alikeagain.joins import lots_of, need_joins
from alikeagain.kinds import coming_of, is_coming, merge_of, need_coming
from alikeagain.values import is_tuple

MOST_JOINED = 60


def is_at_most(kind, one, other):
    """Whether a state is at most another one: this one stays as it is, hearing it."""
    return merge_of(kind, other, one) == other


def join_of(kind, states):
    """What comes by hearing all these states, from START on."""
    total = kind[0]
    for state in states:
        total = merge_of(kind, total, state)
    return total


def above(kind, state):
    """The ascending list of the states that a state is at most, but for itself."""
    return [other for other in coming_of(kind) if other != state and is_at_most(kind, state, other)]


def below(kind):
    """The ascending tuple of all pairs of unlike states, the first one at most the second one."""
    need_joins(kind)
    return tuple([(one, other) for one in coming_of(kind) for other in above(kind, one)])


def joined(kind, states):
    """The join of some states."""
    need_joins(kind)
    if not is_tuple(states, 0, MOST_JOINED) or not all([is_coming(kind, state) for state in states]):
        raise BadState(states)
    return join_of(kind, states)


def top(kind):
    """The join of all states that come."""
    need_joins(kind)
    return join_of(kind, coming_of(kind))


def is_brick(kind, state):
    """Whether a state is not the join of all others that are at most it."""
    others = [other for other in coming_of(kind) if other != state and is_at_most(kind, other, state)]
    return join_of(kind, others) != state


def bricks(kind):
    """The ascending tuple of all bricks."""
    need_joins(kind)
    return tuple([state for state in coming_of(kind) if is_brick(kind, state)])


def chains_from(kind, state):
    """All chains that begin with a state and can go on no further."""
    found = []
    for other in above(kind, state):
        found.extend([(state, *chain) for chain in chains_from(kind, other)])
    return found or [(state,)]


def longest_chain(kind):
    """The least of the longest chains."""
    need_joins(kind)
    # START is at most all states that come, and so each longest chain begins with it.
    chains = chains_from(kind, kind[0])
    most = max([len(chain) for chain in chains])
    return min([chain for chain in chains if len(chain) == most])


def height(kind):
    """How many states a longest chain has."""
    return len(longest_chain(kind))


def is_lean(kind, states):
    """Whether the join of some unlike states is not that of any fewer of them."""
    whole = join_of(kind, states)
    lesser = [states[:at] + states[at + 1:] for at in range(len(states))]
    return all([join_of(kind, fewer) != whole for fewer in lesser])


def breadth(kind):
    """The greatest number of unlike states the join of which is not that of any fewer of them."""
    need_joins(kind)
    return max([len(lot) for lot in lots_of(coming_of(kind)) if is_lean(kind, lot)])


def bricks_of(kind, state):
    """The ascending tuple of the bricks that are at most a state."""
    need_joins(kind)
    need_coming(kind, state)
    return tuple([brick for brick in coming_of(kind) if is_brick(kind, brick) and is_at_most(kind, brick, state)])
