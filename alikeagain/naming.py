"""Tests that name the faults: whether they do, papers on it, the fewest of them that are enough."""

from alikeagain.errors import BadPaper, TooGreat
from alikeagain.faults import are_faults
from alikeagain.joins import lots_of
from alikeagain.probes import are_states, classes_of, faults_up_to, is_test, need_few, need_most, need_tests
from alikeagain.probes import outcome_of, outcomes_of, parting_of
from alikeagain.values import is_headed, is_tuple

MOST_CHOSEN = 8


def need_naming(net, kind, tests, most):
    """Nothing; the first of these arguments that is wrong is refused."""
    need_tests(net, kind, tests)
    need_most(most)
    need_few(net, len(faults_up_to(net, most)))


def heads_of(net, kind, most):
    """The ascending list of the first ones of all classes of alike faults."""
    return [lot[0] for lot in classes_of(net, kind, most)]


def outcomes_of_heads(net, kind, tests, most):
    """The tuple of the outcomes of the first one of each class, in the ascending order of these."""
    return tuple([outcomes_of(net, kind, head, tests) for head in heads_of(net, kind, most)])


def least_mixed(net, kind, tests, most):
    """The least pair of first ones of classes with the same outcomes, or None."""
    firsts = {}
    pairs = []
    for head in heads_of(net, kind, most):
        row = outcomes_of(net, kind, head, tests)
        if row in firsts:
            pairs.append((firsts[row], head))
        else:
            firsts[row] = head
    return min(pairs, default=None)


def names(net, kind, tests, most):
    """Whether tests name the faults at most MOST at once."""
    need_naming(net, kind, tests, most)
    return least_mixed(net, kind, tests, most) is None


def mixed_pair(net, kind, tests, most):
    """Of the first ones of all classes the least pair of two with the same outcomes, or None."""
    need_naming(net, kind, tests, most)
    return least_mixed(net, kind, tests, most)


def kinds_told(net, kind, tests, most):
    """How many unlike outcomes faults at most MOST at once can have."""
    need_naming(net, kind, tests, most)
    return len(set(outcomes_of_heads(net, kind, tests, most)))


def name_paper(net, kind, tests, most):
    """A paper on whether tests name the faults."""
    need_naming(net, kind, tests, most)
    pair = least_mixed(net, kind, tests, most)
    if pair is None:
        return "names", outcomes_of_heads(net, kind, tests, most)
    one, other = pair
    return "mixed", one, other, parting_of(net, kind, one, other)


def are_outcomes(net, kind, many, value):
    """Whether a value is a tuple of so many stands."""
    return is_tuple(value, many, many) and all([are_states(net, kind, stand) for stand in value])


def shows_names(net, kind, tests, most, rows):
    """Whether rows are the outcomes of the first ones of all classes, no two of them the same."""
    if not isinstance(rows, tuple) or not all([are_outcomes(net, kind, len(tests), row) for row in rows]):
        return False
    return rows == outcomes_of_heads(net, kind, tests, most) and len(set(rows)) == len(rows)


def shows_mixed(net, kind, tests, most, paper):
    """Whether a paper shows two faults with the same outcomes, and a test that has unlike ones."""
    _, one, other, test = paper
    if not all([are_faults(net, faults) and len(faults) <= most for faults in (one, other)]):
        return False
    if not is_test(net, kind, test) or outcome_of(net, kind, one, test) == outcome_of(net, kind, other, test):
        return False
    return outcomes_of(net, kind, one, tests) == outcomes_of(net, kind, other, tests)


def check_names(net, kind, tests, most, paper):
    """The word of a paper on whether tests name the faults, refused if it does not hold."""
    need_naming(net, kind, tests, most)
    if is_headed(paper, "names", 2):
        if not shows_names(net, kind, tests, most, paper[1]):
            raise BadPaper("names")
        return "names"
    if is_headed(paper, "mixed", 4):
        if not shows_mixed(net, kind, tests, most, paper):
            raise BadPaper("mixed")
        return "mixed"
    raise BadPaper("form")


def parts_told(rows, lot):
    """In how many parts faults with these outcomes fall by those of a lot of the tests."""
    return len(set([tuple([row[number] for number in lot]) for row in rows]))


def enough_tests(net, kind, tests, most):
    """The numbers of the fewest tests by whose outcomes the faults fall apart as by those of all."""
    need_tests(net, kind, tests)
    need_most(most)
    if len(tests) > MOST_CHOSEN:
        raise TooGreat(MOST_CHOSEN)
    need_few(net, len(faults_up_to(net, most)))
    rows = outcomes_of_heads(net, kind, tests, most)
    numbers = tuple(range(len(tests)))
    lots = [lot for lot in lots_of(numbers) if parts_told(rows, lot) == parts_told(rows, numbers)]
    return min([lot for lot in lots if len(lot) == min([len(other) for other in lots])])
