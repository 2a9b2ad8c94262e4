"""Nets: stations, lines of wires, rows of switches, and the ways through them."""

from alikeagain.errors import BadNet, BadRound, BadStation
from alikeagain.values import are_wholes, is_tuple, is_whole

STATIONS = (1, 2, 4, 8)


def is_order(value, many):
    """Whether a value is a tuple with each number below many, once."""
    if not is_tuple(value, many, many) or not are_wholes(value, 0, many - 1):
        return False
    return sorted(value) == list(range(many))


def need_net(net):
    """The net itself, refused if it is none."""
    if not is_tuple(net, 2, 2):
        raise BadNet(())
    bits, wirings = net
    if not is_whole(bits, 1, 3):
        raise BadNet((0,))
    if not is_tuple(wirings, 0, 3):
        raise BadNet((1,))
    for number, order in enumerate(wirings):
        if not is_order(order, STATIONS[bits]):
            raise BadNet((1, number))
    return net


def stations_of(net):
    """How many stations a net joins, and so how many wires each line has."""
    return STATIONS[net[0]]


def rows_of(net):
    """How many rows of switches a net has."""
    return len(net[1]) + 1


def switches_of(net):
    """How many switches each row has."""
    return stations_of(net) // 2


def comes_to(net, line, wire):
    """The place of the row behind a line to which a wire of it comes."""
    if line == 0:
        return wire
    return net[1][line - 1][wire]


def is_station(net, value):
    """Whether a value is a station of a net."""
    return is_whole(value, 0, stations_of(net) - 1)


def need_station(net, station):
    """The station itself, refused if it is none of the net."""
    if not is_station(net, station):
        raise BadStation(station)
    return station


def are_settings(net, value):
    """Whether a value is settings of a net."""
    if not is_tuple(value, rows_of(net), rows_of(net)):
        return False
    many = switches_of(net)
    return all([is_tuple(row, many, many) and are_wholes(row, 0, 1) for row in value])


def need_settings(net, settings):
    """The settings themselves, refused if they are none of the net."""
    need_net(net)
    if not are_settings(net, settings):
        raise BadRound(0)
    return settings


def many_stations(net):
    """How many stations a net joins."""
    need_net(net)
    return stations_of(net)


def many_rows(net):
    """How many rows of switches a net has."""
    need_net(net)
    return rows_of(net)


def turned_order(order):
    """The order that leads back: each place stands where its wire stood."""
    return tuple([order.index(place) for place in range(len(order))])


def turned(net):
    """The net with its rows the other way round."""
    need_net(net)
    bits, wirings = net
    return bits, tuple([turned_order(order) for order in wirings[::-1]])


def ways_through(net, one, other):
    """The ascending tuple of all ways from a station to another one, or to itself."""
    found = [(one,)]
    for row in range(rows_of(net)):
        longer = []
        for way in found:
            switch = comes_to(net, row, way[-1]) // 2
            # The lesser wire first keeps the ways ascending.
            longer.append((*way, 2 * switch))
            longer.append((*way, 2 * switch + 1))
        found = longer
    return tuple([way for way in found if way[-1] == other])


def ways(net, one, other):
    """The ascending tuple of all ways from a station to another one, or to itself."""
    need_net(net)
    need_station(net, one)
    need_station(net, other)
    return ways_through(net, one, other)
