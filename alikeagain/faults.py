"""Faults of a net: wires that are broken, switches that are stuck."""

from alikeagain.errors import BadFaults
from alikeagain.nets import comes_to, need_net, need_station, rows_of, stations_of, switches_of, ways_through
from alikeagain.values import is_headed, is_tuple, is_whole

MOST_FAULTS = 2


def is_fault(net, value):
    """Whether a value is one fault of a net."""
    if is_headed(value, "broken", 3):
        return is_whole(value[1], 0, rows_of(net)) and is_whole(value[2], 0, stations_of(net) - 1)
    if is_headed(value, "stuck", 4):
        if not is_whole(value[1], 0, rows_of(net) - 1) or not is_whole(value[2], 0, switches_of(net) - 1):
            return False
        return is_whole(value[3], 0, 1)
    return False


def can_follow(ahead, fault):
    """Whether a fault is greater than the one ahead, and not stuck of the same switch."""
    # Of "stuck" the first three items tell the switch, of "broken" they are all there is.
    return ahead < fault and ahead[:3] != fault[:3]


def first_no_fault(net, things):
    """The number of the first one of some things that is no fault, or cannot follow the one ahead, or None."""
    for number, thing in enumerate(things):
        if not is_fault(net, thing):
            return number
        if number > 0 and not can_follow(things[number - 1], thing):
            return number
    return None


def are_faults(net, value):
    """Whether a value is faults of a net."""
    return is_tuple(value, 0, MOST_FAULTS) and first_no_fault(net, value) is None


def need_faults(net, faults):
    """The faults themselves, refused if they are none of the net."""
    need_net(net)
    if not is_tuple(faults, 0, MOST_FAULTS):
        raise BadFaults(None)
    number = first_no_fault(net, faults)
    if number is not None:
        raise BadFaults(number)
    return faults


def is_broken(faults, line, wire):
    """Whether a wire is broken."""
    return ("broken", line, wire) in faults


def stuck_at(faults, row, switch):
    """The setting at which a switch is stuck, or None."""
    for fault in faults:
        if fault[0] == "stuck" and fault[1] == row and fault[2] == switch:
            return fault[3]
    return None


def each_fault(net):
    """The ascending list of all faults of a net."""
    rows = rows_of(net)
    wires = range(stations_of(net))
    switches = range(switches_of(net))
    broken = [("broken", line, wire) for line in range(rows + 1) for wire in wires]
    stuck = [("stuck", row, switch, at) for row in range(rows) for switch in switches for at in (0, 1)]
    return broken + stuck


def single_faults(net):
    """The ascending tuple of all faults of just one."""
    need_net(net)
    return tuple([(fault,) for fault in each_fault(net)])


def is_left(net, faults, way):
    """Whether a way is left with faults."""
    for line, wire in enumerate(way):
        if is_broken(faults, line, wire):
            return False
    for row in range(rows_of(net)):
        place = comes_to(net, row, way[row])
        setting = stuck_at(faults, row, place // 2)
        # By 0 what comes to a place goes along the wire of its number, by 1 along the other one.
        if setting is not None and place ^ setting != way[row + 1]:
            return False
    return True


def left_between(net, faults, one, other):
    """The ascending tuple of the ways from a station to another one that are left."""
    return tuple([way for way in ways_through(net, one, other) if is_left(net, faults, way)])


def ways_left(net, faults, one, other):
    """The ascending tuple of the ways from a station to another one that are left."""
    need_faults(net, faults)
    need_station(net, one)
    need_station(net, other)
    return left_between(net, faults, one, other)


def is_lost(net, faults, one, other):
    """Whether ways lead from a station to another one, and none of them is left."""
    return bool(ways_through(net, one, other)) and not left_between(net, faults, one, other)


def lost_pairs(net, faults):
    """The ascending tuple of the pairs of stations between which all ways are lost."""
    need_faults(net, faults)
    stations = range(stations_of(net))
    return tuple([(one, other) for one in stations for other in stations if is_lost(net, faults, one, other)])
