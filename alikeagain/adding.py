"""Adding: updates that rise, updates that add a state, and papers on whether all add."""

from alikeagain.errors import BadPaper
from alikeagain.joins import need_joins
from alikeagain.kinds import all_updates, can_make, coming_of, least_makings, merge_of, need_update, state_at
from alikeagain.kinds import states_made
from alikeagain.order import is_at_most
from alikeagain.values import are_wholes, is_headed, is_tuple, is_whole


def does_add(kind, update, state):
    """Whether a state becomes by an update what it becomes when it hears what START becomes by it."""
    row = kind[1][update]
    return row[state] == merge_of(kind, state, row[kind[0]])


def state_added(kind, update):
    """The state that an update adds, or None."""
    if not all([does_add(kind, update, state) for state in coming_of(kind)]):
        return None
    return kind[1][update][kind[0]]


def rises(kind, update):
    """Whether each state that comes is at most what it becomes by the update."""
    need_joins(kind)
    need_update(kind, update)
    return all([is_at_most(kind, state, kind[1][update][state]) for state in coming_of(kind)])


def added(kind, update):
    """The state that an update adds, or None."""
    need_joins(kind)
    need_update(kind, update)
    return state_added(kind, update)


def add_paper(kind):
    """A paper on whether all updates add."""
    need_joins(kind)
    makings = least_makings(kind)
    for update in all_updates(kind):
        for state in coming_of(kind):
            if not does_add(kind, update, state):
                return "asks", makings[state], update
    return "adds", tuple([state_added(kind, update) for update in all_updates(kind)])


def shows_adds(kind, states):
    """Whether a value tells, for each update, what it adds."""
    many = len(kind[1])
    if not is_tuple(states, many, many) or not are_wholes(states, 0, len(kind[3]) - 1):
        return False
    return all([state_added(kind, update) == state for update, state in enumerate(states)])


def shows_asks(kind, making, update):
    """Whether a making makes a state to which an update does not add what START becomes by it."""
    if not can_make(kind, making) or not is_whole(update, 0, len(kind[1]) - 1):
        return False
    return not does_add(kind, update, state_at(kind, states_made(kind, making), len(making) - 1))


def check_add(kind, paper):
    """The word of a paper on whether all updates add, refused if it does not hold."""
    need_joins(kind)
    if is_headed(paper, "adds", 2):
        if not shows_adds(kind, paper[1]):
            raise BadPaper("adds")
        return "adds"
    if is_headed(paper, "asks", 3):
        if not shows_asks(kind, paper[1], paper[2]):
            raise BadPaper("asks")
        return "asks"
    raise BadPaper("form")
