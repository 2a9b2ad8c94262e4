"""Menus: which of some rounds are enough, in which order they are soonest, which rounds are needless."""

from alikeagain.delays import delay_by, parted_lot
from alikeagain.errors import BadRound
from alikeagain.joins import lots_of
from alikeagain.nets import need_net
from alikeagain.plans import hears_by, need_plan
from alikeagain.rounds import hears_of, is_round
from alikeagain.telling import least_of
from alikeagain.values import is_tuple

MOST_ON_MENU = 5


def need_menu(net, menu):
    """The menu itself, refused if it is none of the net."""
    need_net(net)
    if not is_tuple(menu, 1, MOST_ON_MENU):
        raise BadRound(None)
    for number, one_round in enumerate(menu):
        if not is_round(net, one_round):
            raise BadRound(number)
    return menu


def hears_on(net, menu):
    """For each round of a menu whom each station hears, without faults."""
    return tuple([hears_of(net, one_round, ()) for one_round in menu])


def does_do(table, lot):
    """Whether a lot of rounds does, by whom each station hears in each round."""
    return bool(lot) and parted_lot([table[number] for number in lot]) is None


def rows_up_to(many):
    """All rows of unlike numbers below many, the shorter ones first, those of one length ascending."""
    found = []
    rows = [()]
    for _ in range(many):
        rows = [(*row, number) for row in rows for number in range(many) if number not in row]
        found.extend(rows)
    return found


def row_delay(menu, table, row):
    """The delay of the plan with these rounds of a menu as RING, in this order, or None."""
    ring = tuple([menu[number] for number in row])
    return delay_by(((), ring), tuple([table[number] for number in row]))


def hears_of_menu(net, menu):
    """For each round of a menu whom each station hears, without faults."""
    need_menu(net, menu)
    return hears_on(net, menu)


def all_hear(net, menu):
    """Whether the lot of all numbers of a menu does."""
    need_menu(net, menu)
    return does_do(hears_on(net, menu), tuple(range(len(menu))))


def least_lots(net, menu):
    """The ascending tuple of the lots that do, and of which no lesser part does."""
    need_menu(net, menu)
    table = hears_on(net, menu)
    return least_of([lot for lot in lots_of(list(range(len(menu)))) if does_do(table, lot)])


def shortest_ring(net, menu):
    """The first of the shortest rows that have a delay, or None."""
    need_menu(net, menu)
    table = hears_on(net, menu)
    for row in rows_up_to(len(menu)):
        if does_do(table, row):
            return row
    return None


def soonest_ring(net, menu):
    """The pair of the least delay of any row, and of the first of the shortest rows with it, or None."""
    need_menu(net, menu)
    table = hears_on(net, menu)
    best = None
    for row in rows_up_to(len(menu)):
        least = row_delay(menu, table, row)
        if least is not None and (best is None or least < best[0]):
            best = (least, row)
    return best


def without_senders(table, moment):
    """Whom each station hears at each moment, if nobody sends at one."""
    return (*table[:moment], (None,) * len(table[moment]), *table[moment + 1:])


def needless_rounds(net, plan):
    """The ascending tuple of the numbers within RING of all needless rounds, each by itself."""
    need_plan(net, plan)
    ahead, ring = plan
    table = hears_by(net, plan, ())
    whole = delay_by(plan, table)
    lesser = [delay_by(plan, without_senders(table, len(ahead) + number)) for number in range(len(ring))]
    return tuple([number for number, least in enumerate(lesser) if least == whole])
