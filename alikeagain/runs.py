"""Runs: updates and rounds one behind another, news of updates, what is surely read."""

from alikeagain.errors import BadLog, BadNumber, BadStand, TooGreat
from alikeagain.nets import is_station
from alikeagain.plans import moment_behind
from alikeagain.relays import behind_round, is_relay_stand, is_unread, laters_of, missed_states, need_relay, need_spot
from alikeagain.relays import relay_hears
from alikeagain.values import ascends, is_tuple, is_whole

MOST_RUN = 60
MOST_REACHED = 2000


def is_doing(relay, value):
    """Whether a value is a pair of a station and the number of an update."""
    if not is_tuple(value, 2, 2) or not is_station(relay[0], value[0]):
        return False
    return is_whole(value[1], 0, len(relay[1][1]) - 1)


def are_doings(relay, value):
    """Whether a value is UPDATES of a step: ascending pairs of unlike stations and updates."""
    if not isinstance(value, tuple) or not all([is_doing(relay, item) for item in value]):
        return False
    return ascends([station for station, _ in value])


def behind_doings(kind, stand, doings):
    """The stand behind some updates of unlike stations."""
    states = list(stand)
    for station, update in doings:
        states[station] = kind[1][update][states[station]]
    return tuple(states)


def stand_behind(relay, heard, missed, stand, value):
    """The stand behind a step of a run; None if a value is no such step there."""
    if not is_tuple(value, 2, 2) or not are_doings(relay, value[0]):
        return None
    done = behind_doings(relay[1], stand, value[0])
    if not is_unread(heard, done, missed, value[1]):
        return None
    return behind_round(relay[1], heard, done, value[1])


def run_stands(relay, faults, moment, stand, steps):
    """The tuple of the stands at first and behind each step."""
    need_spot(relay, faults, moment, stand)
    if not is_tuple(steps, 0, MOST_RUN):
        raise BadLog(None)
    table = relay_hears(relay, faults)
    missed = missed_states(relay)
    found = [stand]
    for number, value in enumerate(steps):
        heard = table[moment_behind(relay[5], moment, number)]
        later = stand_behind(relay, heard, missed, found[-1], value)
        if later is None:
            raise BadLog(number)
        found.append(later)
    return tuple(found)


def heard_behind(known, heard, unread):
    """For each station the updates of which it has news behind a round."""
    found = []
    for station, sender in enumerate(heard):
        news = known[station]
        if sender is not None and sender not in unread:
            news = tuple(sorted(set(news + known[sender])))
        found.append(news)
    return found


def heard_updates(relay, faults, moment, stand, steps):
    """For each station the ascending tuple of the updates of which it has news behind all steps."""
    run_stands(relay, faults, moment, stand, steps)
    table = relay_hears(relay, faults)
    known = [()] * len(stand)
    for number, (doings, unread) in enumerate(steps):
        for station, _ in doings:
            # No update ahead has a number as great, so they ascend still.
            known[station] = (*known[station], (number, station))
        known = heard_behind(known, table[moment_behind(relay[5], moment, number)], unread)
    return tuple(known)


def shows(relay, stand):
    """The tuple of what is read of each copy."""
    need_relay(relay)
    if not is_relay_stand(relay, stand):
        raise BadStand(stand)
    return tuple([relay[1][3][state] for state in stand])


def stands_behind(kind, heard, missed, stands):
    """The ascending tuple of the unlike stands that can come by a round from some stands, if these are not too many."""
    found = {}
    for stand in stands:
        for later in laters_of(kind, heard, stand, missed):
            found[later] = True
        if len(found) > MOST_REACHED:
            raise TooGreat(MOST_REACHED)
    return tuple(sorted(found))


def reached(relay, faults, moment, stand, many):
    """The ascending tuple of the unlike stands that can be behind so many steps, whichever are unread."""
    need_spot(relay, faults, moment, stand)
    if not is_whole(many, 0, MOST_RUN):
        raise BadNumber(many)
    table = relay_hears(relay, faults)
    missed = missed_states(relay)
    stands = (stand,)
    known = {}
    for number in range(many):
        at = moment_behind(relay[5], moment, number)
        # Mostly the same stands come again in each ring.
        if (at, stands) not in known:
            known[(at, stands)] = stands_behind(relay[1], table[at], missed, stands)
        stands = known[(at, stands)]
    return stands


def surely_read(relay, faults, moment, stand, many):
    """For each station what is read of its copy in all stands that can be, None where that is not the same."""
    stands = reached(relay, faults, moment, stand, many)
    found = []
    for station in range(len(stand)):
        readings = [relay[1][3][one[station]] for one in stands]
        found.append(readings[0] if readings.count(readings[0]) == len(readings) else None)
    return tuple(found)
