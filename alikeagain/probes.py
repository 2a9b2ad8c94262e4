"""Tests of a net: their outcomes, faults that are alike, tests by which faults are told apart."""

from alikeagain.errors import BadNumber, BadTest, TooGreat
from alikeagain.faults import MOST_FAULTS, can_follow, each_fault, need_faults
from alikeagain.hearing import is_stand
from alikeagain.joins import rows_over
from alikeagain.kinds import coming_of, merge_of, need_kind
from alikeagain.nets import need_net, rows_of, stations_of, switches_of
from alikeagain.relays import behind_round
from alikeagain.rounds import hears_of, is_round
from alikeagain.values import is_series, is_tuple, is_whole, power

MOST_TESTS = 20
MOST_HELD = 4000


def are_states(net, kind, value):
    """Whether a value is a tuple of a state that comes for each station."""
    return is_stand(kind, value, stations_of(net), stations_of(net))


def wrong_part(net, kind, value):
    """What of a value keeps it from being a test, or None."""
    if not is_tuple(value, 2, 2):
        return "form"
    if not is_round(net, value[0]):
        return "round"
    if not are_states(net, kind, value[1]):
        return "stand"
    return None


def is_test(net, kind, value):
    """Whether a value is a test."""
    return wrong_part(net, kind, value) is None


def need_tested(net, kind):
    """Nothing; a net, or a kind, that is none is refused."""
    need_net(net)
    need_kind(kind)


def need_test(net, kind, test):
    """The test itself, refused if it is none."""
    need_tested(net, kind)
    part = wrong_part(net, kind, test)
    if part is not None:
        raise BadTest(part)
    return test


def need_row(net, kind, tests):
    """The tests themselves, refused if they are none."""
    if not is_series(tests, 0, MOST_TESTS):
        raise BadTest(None)
    for number, test in enumerate(tests):
        if not is_test(net, kind, test):
            raise BadTest(number)
    return tests


def need_tests(net, kind, tests):
    """The tests themselves, refused if they are none."""
    need_tested(net, kind)
    return need_row(net, kind, tests)


def outcome_of(net, kind, faults, test):
    """The outcome of a test."""
    return behind_round(kind, hears_of(net, test[0], faults), test[1], ())


def outcomes_of(net, kind, faults, tests):
    """The tuple of the outcomes of tests."""
    return tuple([outcome_of(net, kind, faults, test) for test in tests])


def outcome(net, kind, faults, test):
    """The outcome of a test."""
    need_tested(net, kind)
    need_faults(net, faults)
    need_test(net, kind, test)
    return outcome_of(net, kind, faults, test)


def outcomes(net, kind, faults, tests):
    """The tuple of the outcomes of tests."""
    need_tested(net, kind)
    need_faults(net, faults)
    need_row(net, kind, tests)
    return outcomes_of(net, kind, faults, tests)


def need_most(most):
    """The number MOST itself, refused if it is none."""
    if not is_whole(most, 0, MOST_FAULTS):
        raise BadNumber(most)
    return most


def faults_up_to(net, most):
    """The ascending list of all faults at most MOST at once."""
    singles = each_fault(net)
    found = [()]
    if most > 0:
        found.extend([(fault,) for fault in singles])
    if most > 1:
        found.extend([(one, other) for one in singles for other in singles if can_follow(one, other)])
    return sorted(found)


def all_faults(net, most):
    """The ascending tuple of all faults at most MOST at once."""
    need_net(net)
    need_most(most)
    return tuple(faults_up_to(net, most))


def need_few(net, many):
    """Nothing; so many faults are refused if they are too many to be held against one another."""
    if many * power(2, rows_of(net) * switches_of(net)) > MOST_HELD:
        raise TooGreat(MOST_HELD)


def each_settings(net):
    """The ascending list of all settings."""
    return rows_over([tuple(row) for row in rows_over((0, 1), switches_of(net))], rows_of(net))


def changing_pairs(kind, is_own):
    """The pairs of a state, and of another or, of its own, the same one, by hearing which it becomes otherwise."""
    pairs = rows_over(coming_of(kind), 2)
    return [(one, other) for one, other in pairs if merge_of(kind, one, other) != one and (one == other or not is_own)]


def view_of(net, kind, faults):
    """For each settings, for each station, whose message comes to it so that it can be seen, or None, if all send."""
    everyone = tuple(range(stations_of(net)))
    shows = {is_own: bool(changing_pairs(kind, is_own)) for is_own in (False, True)}
    found = []
    for settings in each_settings(net):
        heard = hears_of(net, (settings, everyone), faults)
        # What nobody can see is the same as what is lost.
        found.append(tuple([other if shows[other == station] else None for station, other in enumerate(heard)]))
    return tuple(found)


def need_pair(net, kind, one, other):
    """Nothing; the first of these arguments that is wrong is refused."""
    need_tested(net, kind)
    need_faults(net, one)
    need_faults(net, other)
    need_few(net, 2)


def are_alike(net, kind, one, other):
    """Whether two faults are alike."""
    need_pair(net, kind, one, other)
    return view_of(net, kind, one) == view_of(net, kind, other)


def classes_of(net, kind, most):
    """The ascending tuple of the classes of alike faults at most MOST at once."""
    found = {}
    for faults in faults_up_to(net, most):
        found.setdefault(view_of(net, kind, faults), []).append(faults)
    return tuple([tuple(lot) for lot in list(found.values())])


def classes(net, kind, most):
    """The ascending tuple of the classes of alike faults at most MOST at once, each an ascending tuple."""
    need_tested(net, kind)
    need_most(most)
    need_few(net, len(faults_up_to(net, most)))
    return classes_of(net, kind, most)


def stand_that_shows(net, kind, sender, station):
    """A stand in which a station becomes otherwise by hearing a sender, perhaps itself."""
    own, heard = changing_pairs(kind, sender == station)[0]
    stand = [kind[0]] * stations_of(net)
    stand[sender] = heard
    stand[station] = own
    return tuple(stand)


def parting_of(net, kind, one, other):
    """A test that has unlike outcomes with two faults, or None."""
    for settings, first, second in zip(each_settings(net), view_of(net, kind, one), view_of(net, kind, other)):
        for station in range(stations_of(net)):
            if first[station] != second[station]:
                sender = second[station] if first[station] is None else first[station]
                return (settings, (sender,)), stand_that_shows(net, kind, sender, station)
    return None


def parting_test(net, kind, one, other):
    """A test that has unlike outcomes with two faults, or None."""
    need_pair(net, kind, one, other)
    return parting_of(net, kind, one, other)
