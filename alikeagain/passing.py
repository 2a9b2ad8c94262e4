"""What can be heard: settings for a hearing, papers on it, and rounds that serve wants."""

from alikeagain.errors import BadPaper, BadWants
from alikeagain.faults import is_broken, left_between, need_faults, stuck_at
from alikeagain.nets import comes_to, is_station, need_net, rows_of, stations_of, switches_of
from alikeagain.rounds import hears_of, is_round, need_hearing
from alikeagain.values import ascends, is_headed, is_tuple, is_whole, power


def targets_from(net, faults, line, wire, behind):
    """The stations to which ways that are left lead from a wire, by those of the line behind."""
    if is_broken(faults, line, wire):
        return ()
    place = comes_to(net, line, wire)
    setting = stuck_at(faults, line, place // 2)
    if setting is not None:
        return behind[place ^ setting]
    return behind[place] + behind[place ^ 1]


def reach_of(net, faults):
    """For each line, for each wire, the stations to which ways that are left lead from it."""
    wires = range(stations_of(net))
    last = rows_of(net)
    lines = [[() if is_broken(faults, last, wire) else (wire,) for wire in wires]]
    for line in reversed(range(last)):
        behind = lines[-1]
        lines.append([targets_from(net, faults, line, wire, behind) for wire in wires])
    return lines[::-1]


def targets_of(hearing):
    """For each wire of the first line the station to which its message is to come, or None."""
    targets = [None] * len(hearing)
    for station, sender in enumerate(hearing):
        if sender is not None:
            targets[sender] = station
    return tuple(targets)


def can_come(reach, line, targets):
    """Whether each message can still come from its wire of a line to where it is to."""
    for wire, target in enumerate(targets):
        if target is not None and target not in reach[line][wire]:
            return False
    return True


def arrivals(net, row, targets):
    """What comes to the places of a row, by what stands on the wires ahead of it."""
    places = [None] * len(targets)
    for wire, target in enumerate(targets):
        places[comes_to(net, row, wire)] = target
    return places


def is_free(faults, row, switch, places):
    """Whether it does not matter which setting a switch has."""
    if stuck_at(faults, row, switch) is not None:
        return True
    return places[2 * switch] is None and places[2 * switch + 1] is None


def switch_choices(faults, row, switch, places):
    """The settings of a switch that matter, ascending, each with what goes along its two wires."""
    low, high = places[2 * switch], places[2 * switch + 1]
    if is_free(faults, row, switch, places):
        if stuck_at(faults, row, switch) == 1:
            return [(0, (high, low))]
        return [(0, (low, high))]
    return [(0, (low, high)), (1, (high, low))]


def row_choices(net, faults, row, targets):
    """The settings of a row that matter, ascending, each with what stands on the wires behind it."""
    places = arrivals(net, row, targets)
    found = [((), ())]
    for switch in range(switches_of(net)):
        choices = switch_choices(faults, row, switch, places)
        found = [((*row_set, at), wires + pair) for row_set, wires in found for at, pair in choices]
    return found


def row_steps(net, faults, reach, row, targets):
    """The choices of a row behind which all messages can still come where they are to."""
    choices = row_choices(net, faults, row, targets)
    return [choice for choice in choices if can_come(reach, row + 1, choice[1])]


def settings_from(net, faults, reach, row, targets, dead):
    """The least settings of the rows from one on by which all messages come where they are to."""
    if row == rows_of(net):
        return ()
    if (row, targets) in dead:
        return None
    for row_set, behind in row_steps(net, faults, reach, row, targets):
        rest = settings_from(net, faults, reach, row + 1, behind, dead)
        if rest is not None:
            return (row_set, *rest)
    dead[(row, targets)] = True
    return None


def least_settings(net, faults, reach, hearing):
    """The least settings for a hearing, or None."""
    targets = targets_of(hearing)
    if not can_come(reach, 0, targets):
        return None
    return settings_from(net, faults, reach, 0, targets, {})


def can_have(net, hearing, faults):
    """Whether the net with faults can have a hearing."""
    return first_settings(net, hearing, faults) is not None


def first_settings(net, hearing, faults):
    """The least settings for a hearing, or None."""
    need_hearing(net, hearing)
    need_faults(net, faults)
    return least_settings(net, faults, reach_of(net, faults), hearing)


def free_ways(net, faults, row, targets):
    """In how many ways the switches of a row that have any setting can be set."""
    places = arrivals(net, row, targets)
    free = [switch for switch in range(switches_of(net)) if is_free(faults, row, switch, places)]
    return power(2, len(free))


def count_settings(net, hearing, faults):
    """How many settings for a hearing there are."""
    need_hearing(net, hearing)
    need_faults(net, faults)
    reach = reach_of(net, faults)
    targets = targets_of(hearing)
    counts = {targets: 1} if can_come(reach, 0, targets) else {}
    for row in range(rows_of(net)):
        behind = {}
        for state, many in counts.items():
            many *= free_ways(net, faults, row, state)
            for _, later in row_steps(net, faults, reach, row, state):
                behind[later] = behind.get(later, 0) + many
        counts = behind
    return sum(list(counts.values()))


def ways_wanted(net, hearing, faults):
    """For each station that is to hear somebody the ways that are left to it from that one."""
    wanted = {}
    for station, sender in enumerate(hearing):
        if sender is not None:
            wanted[station] = left_between(net, faults, sender, station)
    return wanted


def goes_with(way, chosen):
    """Whether a way goes together with each one of some ways."""
    return all([one != other for taken in chosen for one, other in zip(way, taken)])


def ways_beside(wanted, chosen, station):
    """The ways that are wanted for a station and go together with those that are chosen."""
    return tuple([way for way in wanted[station] if goes_with(way, chosen)])


def waiting(wanted, chosen):
    """The stations that are to hear somebody, and to which no way that is chosen leads."""
    led_to = [way[-1] for way in chosen]
    return [station for station in wanted if station not in led_to]


def tree_beside(wanted, chosen):
    """A tree beside some ways, for a hearing that cannot be had beside them."""
    # The station with the fewest ways keeps the tree small.
    station = min(waiting(wanted, chosen), key=lambda one: len(ways_beside(wanted, chosen, one)))
    beside = ways_beside(wanted, chosen, station)
    return station, tuple([tree_beside(wanted, (*chosen, way)) for way in beside])


def is_tree(wanted, chosen, value):
    """Whether a value is a tree beside some ways."""
    if not is_tuple(value, 2, 2):
        return False
    station, trees = value
    if not is_whole(station, 0, 7) or station not in waiting(wanted, chosen):
        return False
    beside = ways_beside(wanted, chosen, station)
    if not is_tuple(trees, len(beside), len(beside)):
        return False
    for way, tree in zip(beside, trees):
        if not is_tree(wanted, (*chosen, way), tree):
            return False
    return True


def senders_of(hearing):
    """The ascending tuple of the stations that are heard."""
    return tuple(sorted([sender for sender in hearing if sender is not None]))


def have_paper(net, hearing, faults):
    """A paper on whether the net with faults can have a hearing."""
    settings = first_settings(net, hearing, faults)
    if settings is not None:
        return "round", (settings, senders_of(hearing))
    return "tree", tree_beside(ways_wanted(net, hearing, faults), ())


def check_have(net, hearing, faults, paper):
    """The word of a paper on a hearing, refused if it does not hold."""
    need_hearing(net, hearing)
    need_faults(net, faults)
    if is_headed(paper, "round", 2):
        if not is_round(net, paper[1]) or hears_of(net, paper[1], faults) != hearing:
            raise BadPaper("round")
        return "round"
    if is_headed(paper, "tree", 2):
        if not is_tree(ways_wanted(net, hearing, faults), (), paper[1]):
            raise BadPaper("tree")
        return "tree"
    raise BadPaper("form")


def is_want(net, value):
    """Whether a value is a pair of stations of a net."""
    return is_tuple(value, 2, 2) and is_station(net, value[0]) and is_station(net, value[1])


def need_wants(net, wants):
    """The wants themselves, refused if they are none of the net."""
    need_net(net)
    if not is_tuple(wants, 0, 10) or not all([is_want(net, want) for want in wants]):
        raise BadWants(wants)
    if not ascends(wants):
        raise BadWants(wants)
    return wants


def busiest(net, wants):
    """How many wants have the same ONE, or the same OTHER, at the most."""
    need_wants(net, wants)
    ones = [one for one, _ in wants]
    others = [other for _, other in wants]
    counts = [ones.count(one) for one in ones] + [others.count(other) for other in others]
    return max(counts, default=0)


def hearing_for(net, wants):
    """The hearing that serves some wants and has nothing else, or None."""
    hearing = [None] * stations_of(net)
    for one, other in wants:
        if hearing[other] is not None or one in hearing:
            return None
        hearing[other] = one
    return tuple(hearing)


def lot_of(wants, mask):
    """The wants whose numbers are binary figures of the mask."""
    return [want for number, want in enumerate(wants) if mask >> number & 1]


def single_rounds(net, wants, faults):
    """For each mask of wants a round that serves them all, or None."""
    reach = reach_of(net, faults)
    table = [None] * power(2, len(wants))
    for mask in range(len(table)):
        # What one round serves, it serves without one of them, too.
        if mask > 0 and table[mask & (mask - 1)] is None:
            continue
        hearing = hearing_for(net, lot_of(wants, mask))
        if hearing is not None:
            settings = least_settings(net, faults, reach, hearing)
            if settings is not None:
                table[mask] = (settings, senders_of(hearing))
    return table


def parts_with(mask):
    """All masks of figures of a mask, its lowest figure among them."""
    lowest = mask & -mask
    rest = mask ^ lowest
    found = [mask]
    part = rest
    while part > 0:
        part = (part - 1) & rest
        found.append(part | lowest)
    return found


def fewest_parts(table):
    """For each mask as few masks with a round as can be that make it up, or None."""
    best = [None] * len(table)
    best[0] = ()
    for mask in range(1, len(table)):
        for part in parts_with(mask):
            rest = best[mask ^ part]
            if table[part] is None or rest is None:
                continue
            if best[mask] is None or len(rest) + 1 < len(best[mask]):
                best[mask] = (part, *rest)
    return best


def serving_rounds(net, wants, faults):
    """A tuple of as few rounds as can be that serve the wants, or None."""
    need_wants(net, wants)
    need_faults(net, faults)
    table = single_rounds(net, wants, faults)
    parts = fewest_parts(table)[-1]
    if parts is None:
        return None
    return tuple([table[part] for part in parts])


def fewest_rounds(net, wants, faults):
    """How many rounds serve the wants at least, or None."""
    found = serving_rounds(net, wants, faults)
    if found is None:
        return None
    return len(found)


def do_serve(net, wants, faults, value):
    """Whether any value is a tuple of rounds that serve the wants."""
    need_wants(net, wants)
    need_faults(net, faults)
    if not isinstance(value, tuple) or not all([is_round(net, item) for item in value]):
        return False
    heard = [hears_of(net, item, faults) for item in value]
    return all([any([hearing[other] == one for hearing in heard]) for one, other in wants])
