"""News: of whom each station has news, how soon, and by which ways."""

from alikeagain.errors import BadNumber
from alikeagain.faults import need_faults
from alikeagain.nets import is_station, need_station, stations_of
from alikeagain.plans import hears_by, moment_behind, moments_from, need_moment, need_plan
from alikeagain.values import is_tuple, is_whole

MOST_BEHIND = 100


def need_begun(net, plan, faults, moment):
    """Nothing; the first of these arguments that is wrong is refused."""
    need_plan(net, plan)
    need_faults(net, faults)
    need_moment(plan, moment)


def own_news(many):
    """For each of so many stations the mask of whom it has news at first: itself alone."""
    return [1 << station for station in range(many)]


def news_behind(masks, heard):
    """For each station the mask of whom it has news behind a round, by whom each one hears in it."""
    return [mask if other is None else mask | masks[other] for mask, other in zip(masks, heard)]


def stations_in(mask, many):
    """The ascending tuple of those of so many stations that are in a mask."""
    return tuple([station for station in range(many) if mask >> station & 1])


def longest_delay(plan, many):
    """The greatest delay that a plan for so many stations can have."""
    return len(plan[0]) + len(plan[1]) * (many - 1)


def firsts_from(plan, table, moment):
    """For each station, for each station, behind how many rounds this one first has news of that one, or None."""
    many = len(table[0])
    stations = range(many)
    masks = own_news(many)
    firsts = [[0 if first == second else None for second in stations] for first in stations]
    for number, at in enumerate(moments_from(plan, moment, longest_delay(plan, many))):
        masks = news_behind(masks, table[at])
        for one in stations:
            for other in stations:
                if firsts[one][other] is None and masks[other] >> one & 1:
                    firsts[one][other] = number + 1
    return tuple([tuple(row) for row in firsts])


def news(net, plan, faults, moment, many):
    """For each station the ascending tuple of those of which it has news so many rounds behind a moment."""
    need_begun(net, plan, faults, moment)
    if not is_whole(many, 0, MOST_BEHIND):
        raise BadNumber(many)
    table = hears_by(net, plan, faults)
    masks = own_news(stations_of(net))
    for at in moments_from(plan, moment, many):
        masks = news_behind(masks, table[at])
    return tuple([stations_in(mask, len(masks)) for mask in masks])


def first_news(net, plan, faults, moment):
    """For each station, for each station, the least number of rounds till this one has news of that one, or None."""
    need_begun(net, plan, faults, moment)
    return firsts_from(plan, hears_by(net, plan, faults), moment)


def longer_ways(ways, heard):
    """For each station to which ways lead the first way with one station more, by whom each one hears."""
    longer = {}
    for station, other in enumerate(heard):
        # Of ways that go on to the same station the first one goes on from the first one.
        ahead = [ways[one] for one in (station, other) if one in ways]
        if ahead:
            longer[station] = (*min(ahead), station)
    return longer


def way_of(net, plan, faults, moment, one, other):
    """Of the ways with as few stations as can be that lead from one to other the first one, or None."""
    need_begun(net, plan, faults, moment)
    need_station(net, one)
    need_station(net, other)
    table = hears_by(net, plan, faults)
    ways = {one: (one,)}
    for at in moments_from(plan, moment, longest_delay(plan, stations_of(net))):
        if other in ways:
            break
        ways = longer_ways(ways, table[at])
    return ways.get(other)


def is_way(net, plan, faults, moment, way):
    """Whether any value is a way from a moment on."""
    need_begun(net, plan, faults, moment)
    if not is_tuple(way, 1, MOST_BEHIND + 1) or not all([is_station(net, item) for item in way]):
        return False
    table = hears_by(net, plan, faults)
    for number in range(len(way) - 1):
        station, later = way[number], way[number + 1]
        if later != station and table[moment_behind(plan, moment, number)][later] != station:
            return False
    return True
