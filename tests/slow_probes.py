"""What the document tells of tests, found by going through all tests and all pairs of faults."""

from itertools import combinations, product

from tests import slow
from tests.probe_samples import slow_outcome
from tests.slow import is_tuple_of


def faults_up_to(net, most):
    return sorted(faults for faults in slow.all_faults(net) if len(faults) <= most)


def outcomes(net, kind, faults, tests):
    return tuple(slow_outcome(net, kind, faults, test) for test in tests)


def all_rounds(net):
    stations = slow.stations(net)
    lots = [lot for many in range(len(stations) + 1) for lot in combinations(stations, many)]
    return list(product(slow.all_settings(net), lots))


def whole_view(net, kind, faults):
    """The outcomes of all tests there are. What stations hear is told first, as it is mostly the same."""
    heard = [slow.hears(net, one_round, faults) for one_round in all_rounds(net)]
    known = {}
    for row in heard:
        if row not in known:
            found = []
            for stand in product(slow.close(kind), repeat=2 ** net[0]):
                found.append(tuple(own if row[at] is None else kind[2][own][stand[row[at]]] for at, own in enumerate(stand)))
            known[row] = hash(tuple(found)), len(found)
    return tuple(known[row] for row in heard)


def classes(net, kind, most):
    found = {}
    for faults in faults_up_to(net, most):
        found.setdefault(whole_view(net, kind, faults), []).append(faults)
    return tuple(sorted(tuple(lot) for lot in found.values()))


def heads(net, kind, most):
    return [lot[0] for lot in classes(net, kind, most)]


def mixed_pair(net, kind, tests, most):
    """The least of all pairs of heads with the same outcomes."""
    for one, other in combinations(heads(net, kind, most), 2):
        if outcomes(net, kind, one, tests) == outcomes(net, kind, other, tests):
            return one, other
    return None


def enough_tests(net, kind, tests, most):
    """The first lot of tests by which all pairs of faults fall apart that do by all."""
    rows = [outcomes(net, kind, faults, tests) for faults in faults_up_to(net, most)]
    pairs = {(one, other) for one, other in combinations(rows, 2) if one != other}
    for many in range(len(tests) + 1):
        for lot in combinations(range(len(tests)), many):
            if all(any(one[at] != other[at] for at in lot) for one, other in pairs):
                return lot
    return None


def is_states(net, kind, value):
    return is_tuple_of(value, 2 ** net[0]) and all(type(item) is int and item in slow.close(kind) for item in value)


def is_test(net, kind, value):
    if not is_tuple_of(value, 2) or not is_states(net, kind, value[1]):
        return False
    return repr(value[0]) in [repr(one_round) for one_round in all_rounds(net)]


def paper_on_naming(net, kind, tests, most, paper):
    """The word of a paper on naming that holds, or what it is refused with, in a list."""
    if is_tuple_of(paper, 2) and type(paper[0]) is str and paper[0] == "names":
        rows = tuple(outcomes(net, kind, head, tests) for head in heads(net, kind, most))
        return "names" if repr(paper[1]) == repr(rows) and len(set(rows)) == len(rows) else ["names"]
    if not is_tuple_of(paper, 4) or type(paper[0]) is not str or paper[0] != "mixed":
        return ["form"]
    _, one, other, test = paper
    known = [repr(faults) for faults in faults_up_to(net, most)]
    if repr(one) not in known or repr(other) not in known or not is_test(net, kind, test):
        return ["mixed"]
    if outcomes(net, kind, one, tests) != outcomes(net, kind, other, tests):
        return ["mixed"]
    return ["mixed"] if slow_outcome(net, kind, one, test) == slow_outcome(net, kind, other, test) else "mixed"


def fitting(net, kind, seen, most):
    return tuple(faults for faults in faults_up_to(net, most)
                 if all(slow_outcome(net, kind, faults, test) == told for test, told in seen))


def first_false(net, kind, seen, most):
    for number in range(len(seen)):
        if not fitting(net, kind, seen[:number + 1], most):
            return number
    return None


def heads_left(net, kind, seen, most):
    fit = fitting(net, kind, seen, most)
    return tuple(sorted({lot[0] for lot in classes(net, kind, most) if set(lot) & set(fit)}))


def next_test(net, kind, seen, most, tests):
    left = heads_left(net, kind, seen, most)
    best = None
    for number, test in enumerate(tests):
        told = [slow_outcome(net, kind, faults, test) for faults in left]
        if len(set(told)) > 1:
            many = max(told.count(item) for item in told)
            if best is None or many < best[0]:
                best = (many, number)
    return None if best is None else best[1]
