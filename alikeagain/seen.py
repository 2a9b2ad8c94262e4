"""What was seen of tests: which faults fit it, which are left, which test is best next."""

from alikeagain.errors import BadSeen
from alikeagain.probes import MOST_TESTS, are_states, classes_of, faults_up_to, is_test, need_few, need_most, need_row
from alikeagain.probes import need_tested, outcome_of
from alikeagain.values import is_series, is_tuple


def is_sight(net, kind, value):
    """Whether a value is a pair of a test and what may be seen of it."""
    return is_tuple(value, 2, 2) and is_test(net, kind, value[0]) and are_states(net, kind, value[1])


def need_seen(net, kind, seen):
    """What was seen itself, refused if it is none."""
    need_tested(net, kind)
    if not is_series(seen, 0, MOST_TESTS):
        raise BadSeen(None)
    for number, pair in enumerate(seen):
        if not is_sight(net, kind, pair):
            raise BadSeen(number)
    return seen


def need_looked(net, kind, seen, most):
    """Nothing; the first of these arguments that is wrong is refused."""
    need_seen(net, kind, seen)
    need_most(most)


def does_fit(net, kind, faults, seen):
    """Whether faults fit what was seen."""
    return all([outcome_of(net, kind, faults, test) == told for test, told in seen])


def fitting(net, kind, seen, most):
    """The ascending tuple of all faults at most MOST at once that fit."""
    need_looked(net, kind, seen, most)
    return tuple([faults for faults in faults_up_to(net, most) if does_fit(net, kind, faults, seen)])


def first_false(net, kind, seen, most):
    """The number of the first pair such that no faults fit the pairs up to it, or None."""
    need_looked(net, kind, seen, most)
    left = faults_up_to(net, most)
    for number, pair in enumerate(seen):
        left = [faults for faults in left if does_fit(net, kind, faults, (pair,))]
        if not left:
            return number
    return None


def left_of(net, kind, seen, most):
    """The ascending list of those that are left, if these are not too many to be looked at."""
    need_few(net, len(faults_up_to(net, most)))
    # Alike faults fit all together or not at all.
    return [lot[0] for lot in classes_of(net, kind, most) if does_fit(net, kind, lot[0], seen)]


def heads_left(net, kind, seen, most):
    """The ascending tuple of those that are left."""
    need_looked(net, kind, seen, most)
    return tuple(left_of(net, kind, seen, most))


def is_named(net, kind, seen, most):
    """Whether just one is left."""
    need_looked(net, kind, seen, most)
    return len(left_of(net, kind, seen, most)) == 1


def counts_by_outcome(net, kind, left, test):
    """How many of those that are left have each outcome of a test."""
    found = {}
    for faults in left:
        told = outcome_of(net, kind, faults, test)
        found[told] = found.get(told, 0) + 1
    return list(found.values())


def next_test(net, kind, seen, most, tests):
    """The number of the first test by which the most of those left with one outcome are fewest, or None."""
    need_looked(net, kind, seen, most)
    need_row(net, kind, tests)
    left = left_of(net, kind, seen, most)
    best = None
    fewest = len(left)
    for number, test in enumerate(tests):
        # If all have the same outcome, these are as many as there are.
        most_alike = max(counts_by_outcome(net, kind, left, test), default=0)
        if most_alike < fewest:
            best = number
            fewest = most_alike
    return best
