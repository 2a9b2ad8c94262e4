"""Delays: how many rounds it takes till all stations have news of all, papers on it, doubling plans."""

from alikeagain.errors import BadPaper
from alikeagain.faults import need_faults
from alikeagain.nets import is_station, need_net, stations_of
from alikeagain.news import firsts_from, longest_delay, need_begun, news_behind, own_news
from alikeagain.passing import least_settings, reach_of
from alikeagain.plans import hears_by, is_moment, many_moments, moment_behind, moments_from, need_plan
from alikeagain.values import is_headed, is_lot, is_tuple, is_whole

MOST_FIRST = 60


def those_who_hear(lot, heard):
    """The stations that hear one of a lot, by whom each one hears."""
    return [station for station, other in enumerate(heard) if other in lot]


def wider_lot(lot, heard):
    """The lot of those of a lot and those who hear one of them."""
    return tuple(sorted(set(list(lot) + those_who_hear(lot, heard))))


def lot_round(ring, station):
    """The least lot with a station of which nobody outside hears anybody within in any round of a ring."""
    lot = (station,)
    while True:
        wider = lot
        for heard in ring:
            wider = wider_lot(wider, heard)
        if wider == lot:
            return lot
        lot = wider


def parted_lot(ring):
    """The first such lot that has not all stations, with the station from which it comes; None if there is none."""
    for station in range(len(ring[0])):
        lot = lot_round(ring, station)
        if len(lot) < len(ring[0]):
            return station, lot
    return None


def ring_hears(plan, table):
    """Of the rounds of RING alone whom each station hears."""
    return table[len(plan[0]):]


def delay_from(plan, table, moment):
    """How many rounds it takes from a moment till all have news of all, or None."""
    many = len(table[0])
    masks = own_news(many)
    full = (1 << many) - 1
    for number, at in enumerate(moments_from(plan, moment, longest_delay(plan, many))):
        if all([mask == full for mask in masks]):
            return number
        masks = news_behind(masks, table[at])
    return longest_delay(plan, many) if all([mask == full for mask in masks]) else None


def delay_by(plan, table):
    """The delay of a plan, by whom each station hears at each moment, or None."""
    if parted_lot(ring_hears(plan, table)) is not None:
        return None
    return max([delay_from(plan, table, moment) for moment in range(many_moments(plan))])


def delay(net, plan, faults):
    """The delay of a plan, or None."""
    need_plan(net, plan)
    need_faults(net, faults)
    return delay_by(plan, hears_by(net, plan, faults))


def moment_delay(net, plan, faults, moment):
    """The delay from a moment, or None."""
    need_begun(net, plan, faults, moment)
    return delay_from(plan, hears_by(net, plan, faults), moment)


def late_from(plan, table, firsts):
    """The moment, the two stations and the lots that show that no fewer rounds are enough."""
    stations = range(len(table[0]))
    most = greatest_first(firsts)
    places = [(at, first, second) for at in range(len(firsts)) for first in stations for second in stations]
    moment, one, other = min([place for place in places if firsts[place[0]][place[1]][place[2]] == most])
    lots = [(one,)]
    for at in moments_from(plan, moment, most - 1):
        lots.append(wider_lot(lots[-1], table[at]))
    return moment, one, other, tuple(lots)


def greatest_first(firsts):
    """The greatest integer of all FIRSTS."""
    return max([number for rows in firsts for row in rows for number in row])


def paper_by(plan, table):
    """A paper on the delay, by whom each station hears at each moment."""
    parted = parted_lot(ring_hears(plan, table))
    if parted is not None:
        one, lot = parted
        other = min([station for station in range(len(table[0])) if station not in lot])
        return "never", one, other, lot
    firsts = tuple([firsts_from(plan, table, moment) for moment in range(many_moments(plan))])
    return "delay", firsts, late_from(plan, table, firsts)


def delay_paper(net, plan, faults):
    """A paper on the delay."""
    need_plan(net, plan)
    need_faults(net, faults)
    return paper_by(plan, hears_by(net, plan, faults))


def is_square(value, many):
    """Whether a value has, for each of so many stations, for each one, an integer from 0 to 60."""
    if not is_tuple(value, many, many) or not all([is_tuple(row, many, many) for row in value]):
        return False
    return all([is_whole(number, 0, MOST_FIRST) for row in value for number in row])


def is_heard_by(plan, table, moment, row, other):
    """Whether a station hears, when the integer of a row says so, one with a lesser integer there."""
    if row[other] == 0:
        return False
    heard = table[moment_behind(plan, moment, row[other] - 1)][other]
    return heard is not None and row[heard] < row[other]


def are_firsts(plan, table, value):
    """Whether a value is FIRSTS of a plan, by whom each station hears at each moment."""
    moments = many_moments(plan)
    many = len(table[0])
    if not is_tuple(value, moments, moments) or not all([is_square(rows, many) for rows in value]):
        return False
    for moment, rows in enumerate(value):
        for one, row in enumerate(rows):
            if row[one] != 0:
                return False
            if not all([is_heard_by(plan, table, moment, row, other) for other in range(many) if other != one]):
                return False
    return True


def goes_on(lot, later, heard):
    """Whether a later lot has all of a lot, and all who hear one of these."""
    return all([station in later for station in list(lot) + those_who_hear(lot, heard)])


def is_late(net, plan, table, value, most):
    """Whether a value shows that some news takes more than most - 1 rounds."""
    if not is_tuple(value, 4, 4) or not is_moment(plan, value[0]):
        return False
    moment, one, other, lots = value
    if not is_station(net, one) or not is_station(net, other) or not is_tuple(lots, most, most):
        return False
    if not all([is_lot(lot, stations_of(net) - 1) for lot in lots]):
        return False
    if one not in lots[0] or other in lots[-1]:
        return False
    moments = moments_from(plan, moment, most - 1)
    return all([goes_on(lots[number], lots[number + 1], table[at]) for number, at in enumerate(moments)])


def shows_delay(net, plan, table, paper):
    """Whether a paper with "delay" holds."""
    _, firsts, late = paper
    return are_firsts(plan, table, firsts) and is_late(net, plan, table, late, greatest_first(firsts))


def shows_never(net, plan, table, paper):
    """Whether a paper with "never" holds."""
    _, one, other, lot = paper
    if not is_station(net, one) or not is_station(net, other) or not is_lot(lot, stations_of(net) - 1):
        return False
    if one not in lot or other in lot:
        return False
    return all([goes_on(lot, lot, heard) for heard in ring_hears(plan, table)])


def shown_delay(net, plan, faults, paper):
    """The delay that a paper shows, None of "never"; refused if it does not hold."""
    table = hears_by(net, plan, faults)
    if is_headed(paper, "delay", 3):
        if not shows_delay(net, plan, table, paper):
            raise BadPaper("delay")
        return greatest_first(paper[1])
    if is_headed(paper, "never", 4):
        if not shows_never(net, plan, table, paper):
            raise BadPaper("never")
        return None
    raise BadPaper("form")


def check_delay(net, plan, faults, paper):
    """The delay that a paper shows, None of "never"; refused if it does not hold."""
    need_plan(net, plan)
    need_faults(net, faults)
    return shown_delay(net, plan, faults, paper)


def doubling_round(net, figure):
    """The round in which each station sends to the one with just this binary figure otherwise, or None."""
    hearing = tuple([station ^ (1 << figure) for station in range(stations_of(net))])
    settings = least_settings(net, (), reach_of(net, ()), hearing)
    if settings is None:
        return None
    return settings, tuple(range(stations_of(net)))


def doubling_plan(net):
    """A doubling plan with the first settings, or None."""
    need_net(net)
    ring = tuple([doubling_round(net, figure) for figure in range(net[0])])
    if None in ring:
        return None
    return (), ring
