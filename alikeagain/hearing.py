"""What stations have heard of, and whether only that matters."""

from alikeagain.errors import BadNumber, BadPaper, BadStand
from alikeagain.joins import broken_on, first_break, is_closed
from alikeagain.kinds import coming_of, is_coming, merge_of, need_kind
from alikeagain.values import is_headed, is_tuple, is_whole

HEARING_RULES = ("turn", "group", "again")
MOST_STEPS = 400
MOST_STATIONS = 12


def is_stand(kind, value, least, most):
    """Whether a value is a tuple of states that come, for so many stations."""
    return is_tuple(value, least, most) and all([is_coming(kind, state) for state in value])


def need_stand(kind, stand):
    """The stand itself, refused if it is none of 1 to 12 stations."""
    if not is_stand(kind, stand, 1, MOST_STATIONS):
        raise BadStand(stand)
    return stand


def is_step(value, many):
    """Whether a value is a pair of unlike numbers of so many stations."""
    if not is_tuple(value, 2, 2):
        return False
    return all([is_whole(station, 0, many - 1) for station in value]) and value[0] != value[1]


def are_steps(value, many, most):
    """Whether a value is a tuple of at most so many steps of many stations."""
    return is_tuple(value, 0, most) and all([is_step(step, many) for step in value])


def behind_steps(kind, stand, steps):
    """For each station its state and the ascending tuple of those of whom it has heard, behind steps."""
    states = list(stand)
    known = [(station,) for station in range(len(stand))]
    for one, other in steps:
        states[one] = merge_of(kind, states[one], states[other])
        known[one] = tuple(sorted(set(known[one] + known[other])))
    return tuple(list(zip(states, known)))


def does_only_that_matter(kind):
    """Whether only that matters for a kind of whom stations have heard."""
    need_kind(kind)
    return not broken_on(kind, HEARING_RULES, coming_of(kind))


def steps_apart(rule):
    """Two pairs of steps and a station that hear the same, but not alike if the rule does not hold."""
    once = (((0, 1),), 0)
    if rule == "turn":
        return once, (((1, 0),), 1)
    if rule == "again":
        return once, (((0, 1), (0, 1)), 0)
    return (((0, 1), (0, 2)), 0), (((1, 2), (0, 1)), 0)


def hearing_paper(kind):
    """A paper on whether only that matters of whom stations have heard."""
    need_kind(kind)
    states = coming_of(kind)
    broken = broken_on(kind, HEARING_RULES, states)
    if not broken:
        return "same", states
    one, other = steps_apart(broken[0])
    return "unlike", first_break(kind, broken[0], states), one, other


def is_end(value, many):
    """Whether a value is a pair of at most four steps and a station, of so many."""
    return is_tuple(value, 2, 2) and are_steps(value[0], many, 4) and is_whole(value[1], 0, many - 1)


def shows_unlike(kind, paper):
    """Whether a paper shows two stations that have heard of the same ones, and are unlike."""
    _, stand, one, other = paper
    if not is_stand(kind, stand, 2, 3):
        return False
    if not is_end(one, len(stand)) or not is_end(other, len(stand)):
        return False
    state, known = behind_steps(kind, stand, one[0])[one[1]]
    second, others = behind_steps(kind, stand, other[0])[other[1]]
    return known == others and state != second


def check_hearing(kind, paper):
    """The word of a paper on what has been heard of, refused if it does not hold."""
    need_kind(kind)
    if is_headed(paper, "same", 2):
        if not is_closed(kind, paper[1]) or broken_on(kind, HEARING_RULES, paper[1]):
            raise BadPaper("same")
        return "same"
    if is_headed(paper, "unlike", 4):
        if not shows_unlike(kind, paper):
            raise BadPaper("unlike")
        return "unlike"
    raise BadPaper("form")


def heard(kind, stand, steps):
    """For each station its state and of whom it has heard behind the steps."""
    need_kind(kind)
    need_stand(kind, stand)
    if not are_steps(steps, len(stand), MOST_STEPS):
        raise BadNumber(steps)
    return behind_steps(kind, stand, steps)
