"""Relays: copies of a kind at the stations of a net, steps by a plan, messages that may be missed."""

from alikeagain.books import mixed_pairs, need_book
from alikeagain.errors import BadBook, BadNumber, BadRelay, BadStand, BadStation, TooGreat
from alikeagain.faults import need_faults
from alikeagain.hearing import is_stand
from alikeagain.kinds import coming_of, merge_of, need_kind
from alikeagain.letters import need_size, need_times
from alikeagain.nets import need_net, stations_of
from alikeagain.plans import hears_by, many_moments, moment_behind, moments_from, need_moment, need_plan
from alikeagain.values import is_lot, is_tuple, is_whole, power

MOST_PAIRS = 2000
MOST_TABLE_STEPS = 20000
MOST_AFTER = 100


def need_relay(relay):
    """The relay itself, refused if it is none."""
    if not is_tuple(relay, 6, 6):
        raise BadRelay("form")
    net, kind, book, size, times, plan = relay
    need_net(net)
    need_kind(kind)
    need_book(book)
    if len(book) != len(coming_of(kind)):
        raise BadBook(None)
    need_size(size)
    need_times(times)
    need_plan(net, plan)
    return relay


def need_faulty(relay, faults):
    """Nothing; a relay, or faults, that are none are refused."""
    need_relay(relay)
    need_faults(relay[0], faults)


def is_relay_stand(relay, value):
    """Whether a value is a stand of a relay."""
    many = stations_of(relay[0])
    return is_stand(relay[1], value, many, many)


def need_spot(relay, faults, moment, stand):
    """Nothing; the first of these arguments that is wrong is refused."""
    need_faulty(relay, faults)
    need_moment(relay[5], moment)
    if not is_relay_stand(relay, stand):
        raise BadStand(stand)


def relay_hears(relay, faults):
    """For each moment, for each station, the one whose message comes to it, or None."""
    return hears_by(relay[0], relay[5], faults)


def missed_states(relay):
    """The ascending tuple of the states that may be missed."""
    kind, book, size, times = relay[1:5]
    mixed = [number for pair in mixed_pairs(book, size, times) for number in pair]
    return tuple([state for number, state in enumerate(coming_of(kind)) if number in mixed])


def can_be_unread(heard, stand, missed):
    """The ascending tuple of the stations that can be unread, by whom each one hears, and what may be missed."""
    senders = sorted([sender for sender in heard if sender is not None])
    return tuple([sender for sender in senders if stand[sender] in missed])


def is_unread(heard, stand, missed, value):
    """Whether a value is an ascending tuple of stations that can be unread."""
    if not is_lot(value, len(stand) - 1):
        return False
    return all([station in can_be_unread(heard, stand, missed) for station in value])


def behind_round(kind, heard, stand, unread):
    """The stand behind a round, by whom each station hears, and who is unread."""
    later = []
    for station, sender in enumerate(heard):
        state = stand[station]
        if sender is not None and sender not in unread:
            state = merge_of(kind, state, stand[sender])
        later.append(state)
    return tuple(later)


def states_behind(kind, state, heard, missed):
    """The unlike states that a station can have behind hearing one, which may be missed."""
    behind = merge_of(kind, state, heard)
    if heard in missed and behind != state:
        return [state, behind]
    return [behind]


def laters_of(kind, heard, stand, missed):
    """The ascending list of the unlike stands that can come by a round."""
    found = [()]
    for station, sender in enumerate(heard):
        state = stand[station]
        # Nobody is heard by two stations, so what each one hears is chosen by itself.
        ends = [state] if sender is None else states_behind(kind, state, stand[sender], missed)
        found = [(*later, end) for later in found for end in ends]
    return sorted(found)


def all_stands(relay):
    """The ascending list of all stands."""
    states = coming_of(relay[1])
    found = [()]
    for _ in range(stations_of(relay[0])):
        found = [(*stand, state) for stand in found for state in states]
    return found


def count_stands(relay):
    """How many stands there are."""
    return power(len(coming_of(relay[1])), stations_of(relay[0]))


def table_steps(relay, faults):
    """How many steps a table of all moments and stands has, if nobody makes updates."""
    total = 0
    missed = missed_states(relay)
    for heard in relay_hears(relay, faults):
        messages = [sender for sender in heard if sender is not None]
        total += power(2, len(messages)) if missed else 1
    return total * count_stands(relay)


def count_pairs(relay):
    """How many pairs of a moment and a stand there are."""
    return many_moments(relay[5]) * count_stands(relay)


def need_small(relay, faults, choices=1):
    """Nothing; a relay with too many pairs of a moment and a stand, or too many steps, is refused."""
    if count_pairs(relay) > MOST_PAIRS:
        raise TooGreat(MOST_PAIRS)
    if table_steps(relay, faults) * choices > MOST_TABLE_STEPS:
        raise TooGreat(MOST_TABLE_STEPS)


def missable(relay):
    """The ascending tuple of the states that may be missed."""
    need_relay(relay)
    return missed_states(relay)


def step(relay, faults, moment, stand, unread):
    """The stand behind a step."""
    need_spot(relay, faults, moment, stand)
    heard = relay_hears(relay, faults)[moment]
    if not is_unread(heard, stand, missed_states(relay), unread):
        raise BadStation(unread)
    return behind_round(relay[1], heard, stand, unread)


def laters(relay, faults, moment, stand):
    """The ascending tuple of the unlike stands that can come next."""
    need_spot(relay, faults, moment, stand)
    heard = relay_hears(relay, faults)[moment]
    return tuple(laters_of(relay[1], heard, stand, missed_states(relay)))


def stand_after(relay, faults, moment, stand, many):
    """The stand behind so many steps without unread stations."""
    need_spot(relay, faults, moment, stand)
    if not is_whole(many, 0, MOST_AFTER):
        raise BadNumber(many)
    table = relay_hears(relay, faults)
    for at in moments_from(relay[5], moment, many):
        stand = behind_round(relay[1], table[at], stand, ())
    return stand


def later_pairs(relay, table, missed, pair):
    """The ascending list of the pairs of a moment and a stand that can come next."""
    moment, stand = pair
    later = moment_behind(relay[5], moment, 1)
    return [(later, end) for end in laters_of(relay[1], table[moment], stand, missed)]
