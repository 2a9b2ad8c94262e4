"""Logs: what was shown behind each round, and which stands and faults fit it."""

from alikeagain.errors import BadFaults, BadLog
from alikeagain.faults import are_faults
from alikeagain.nets import stations_of
from alikeagain.plans import moments_from
from alikeagain.relays import all_stands, laters_of, missed_states, need_faulty, need_relay, need_small, relay_hears
from alikeagain.values import are_wholes, is_series, is_tuple

MOST_SHOWN = 12
MOST_MENU = 8


def need_log(relay, log):
    """The log itself, refused if it is none."""
    if not is_series(log, 1, MOST_SHOWN):
        raise BadLog(None)
    many = stations_of(relay[0])
    for number, shown in enumerate(log):
        if not is_tuple(shown, many, many) or not are_wholes(shown, 0, 9):
            raise BadLog(number)
    return log


def shown_of(kind, stand):
    """The tuple of what is read of each copy."""
    return tuple([kind[3][state] for state in stand])


def stands_that_show(kind, stands, shown):
    """Those of some stands of which this is shown."""
    return [stand for stand in stands if shown_of(kind, stand) == shown]


def hears_along(relay, faults, many):
    """Whom each station hears in each of the first so many rounds."""
    table = relay_hears(relay, faults)
    return [table[moment] for moment in moments_from(relay[5], 0, many)]


def stands_along(relay, faults, log):
    """The lists of the stands that there can be at each thing of a log, if those at the beginning fit it so far."""
    kind = relay[1]
    missed = missed_states(relay)
    rows = [stands_that_show(kind, all_stands(relay), log[0])]
    for heard, shown in zip(hears_along(relay, faults, len(log) - 1), log[1:]):
        fresh = {later: True for stand in rows[-1] for later in laters_of(kind, heard, stand, missed)}
        rows.append(stands_that_show(kind, fresh, shown))
    return rows


def need_logged(relay, faults, log):
    """Nothing; the first of these arguments that is wrong, or what is too great, is refused."""
    need_faulty(relay, faults)
    need_log(relay, log)
    need_small(relay, faults)


def begin_stands(relay, faults, log):
    """The ascending tuple of all stands that fit a log."""
    need_logged(relay, faults, log)
    kind = relay[1]
    missed = missed_states(relay)
    rows = stands_along(relay, faults, log)
    fitting = {stand: True for stand in rows[-1]}
    # From the end on: of each row those stay that lead to one that stays.
    for heard, row in list(zip(hears_along(relay, faults, len(log) - 1), rows))[::-1]:
        behind = {stand: laters_of(kind, heard, stand, missed) for stand in row}
        fitting = {stand: True for stand in row if any([later in fitting for later in behind[stand]])}
    return tuple(sorted(fitting))


def shown_next(relay, faults, log):
    """The ascending tuple of all that may be shown behind a log."""
    need_logged(relay, faults, log)
    missed = missed_states(relay)
    heard = hears_along(relay, faults, len(log))[-1]
    last = stands_along(relay, faults, log)[-1]
    found = [shown_of(relay[1], later) for stand in last for later in laters_of(relay[1], heard, stand, missed)]
    return tuple(sorted(set(found)))


def need_menu(relay, menu):
    """The menu of faults itself, refused if it is none."""
    if not is_tuple(menu, 1, MOST_MENU):
        raise BadFaults(None)
    for number, faults in enumerate(menu):
        if not are_faults(relay[0], faults):
            raise BadFaults(number)
    return menu


def fitting_faults(relay, menu, log):
    """The ascending tuple of the numbers of those faults of a menu by which some stand fits a log."""
    need_relay(relay)
    need_menu(relay, menu)
    need_log(relay, log)
    for faults in menu:
        need_small(relay, faults)
    return tuple([number for number, faults in enumerate(menu) if stands_along(relay, faults, log)[-1]])


def first_false(relay, faults, log):
    """The number of the first thing of a log such that nothing fits the log up to it, or None."""
    need_logged(relay, faults, log)
    for number, row in enumerate(stands_along(relay, faults, log)):
        if not row:
            return number
    return None
