"""Rounds: whose messages go, along which wires, and who hears whom."""

from alikeagain.errors import BadHears, BadRound, BadStation
from alikeagain.faults import is_broken, need_faults, single_faults, stuck_at
from alikeagain.nets import are_settings, comes_to, is_station, need_net, need_station, rows_of, stations_of
from alikeagain.values import is_lot, is_tuple


def are_senders(net, value):
    """Whether a value is an ascending tuple of stations of a net."""
    return is_lot(value, stations_of(net) - 1)


def is_round(net, value):
    """Whether a value is a round of a net."""
    return is_tuple(value, 2, 2) and are_settings(net, value[0]) and are_senders(net, value[1])


def need_round(net, one_round):
    """The round itself, refused if it is none of the net."""
    need_net(net)
    if not is_tuple(one_round, 2, 2):
        raise BadRound(None)
    settings, senders = one_round
    if not are_settings(net, settings):
        raise BadRound(0)
    if not are_senders(net, senders):
        raise BadRound(1)
    return one_round


def is_hearing(net, value):
    """Whether a value has, for each station, a station or None, no station twice."""
    many = stations_of(net)
    if not is_tuple(value, many, many):
        return False
    heard = [item for item in value if item is not None]
    if not all([is_station(net, item) for item in heard]):
        return False
    return all([heard.count(item) == 1 for item in heard])


def need_hearing(net, hearing):
    """The hearing itself, refused if it is none of the net."""
    need_net(net)
    if not is_hearing(net, hearing):
        raise BadHears(hearing)
    return hearing


def track_of(net, settings, faults, station):
    """The wires along which a message goes, up to a broken one."""
    wires = [station]
    for row in range(rows_of(net)):
        if is_broken(faults, row, wires[-1]):
            break
        place = comes_to(net, row, wires[-1])
        setting = stuck_at(faults, row, place // 2)
        if setting is None:
            setting = settings[row][place // 2]
        wires.append(place ^ setting)
    return tuple(wires)


def hears_of(net, one_round, faults):
    """For each station the one whose message comes to it, or None."""
    settings, senders = one_round
    found = [None] * stations_of(net)
    last = rows_of(net)
    for sender in senders:
        wires = track_of(net, settings, faults, sender)
        if len(wires) > last and not is_broken(faults, last, wires[last]):
            found[wires[last]] = sender
    return tuple(found)


def hears(net, one_round, faults):
    """For each station the one whose message comes to it, or None."""
    need_round(net, one_round)
    need_faults(net, faults)
    return hears_of(net, one_round, faults)


def track(net, one_round, faults, station):
    """The wires along which the message of a sender goes, up to a broken one."""
    need_round(net, one_round)
    need_faults(net, faults)
    need_station(net, station)
    settings, senders = one_round
    if station not in senders:
        raise BadStation(station)
    return track_of(net, settings, faults, station)


def hurt(net, one_round, faults):
    """The ascending tuple of the stations that hear otherwise than without faults."""
    need_round(net, one_round)
    need_faults(net, faults)
    sound = hears_of(net, one_round, ())
    faulty = hears_of(net, one_round, faults)
    return tuple([station for station in range(stations_of(net)) if sound[station] != faulty[station]])


def explaining(net, one_round, hearing):
    """The ascending tuple of all faults, one at most, by which a round explains a hearing."""
    need_round(net, one_round)
    need_hearing(net, hearing)
    lots = ((), *single_faults(net))
    return tuple([faults for faults in lots if hears_of(net, one_round, faults) == hearing])
