"""What the document tells of relays, found by going through all choices."""

from functools import lru_cache
from itertools import combinations, product

from tests import slow, slow_plans
from tests.slow import is_int, is_tuple_of

MIXED = lru_cache(None)(slow.mixed_up)


def missable(relay):
    _, kind, book, size, times, _ = relay
    mixed = {number for pair in MIXED(book, size, times) for number in pair}
    return tuple(state for number, state in enumerate(slow.close(kind)) if number in mixed)


def hears(relay, faults, moment):
    return slow_plans.hears_at(relay[0], relay[5], faults, moment)


def next_moment(relay, moment):
    return slow_plans.next_moment(relay[5], moment)


def moments(relay):
    return slow_plans.moments(relay[5])


def can_be_unread(relay, faults, moment, stand):
    heard = hears(relay, faults, moment)
    return tuple(station for station in range(len(stand)) if station in heard and stand[station] in missable(relay))


def step(relay, faults, moment, stand, unread):
    """The stand behind a step with these unread stations."""
    later = list(stand)
    for station, sender in enumerate(hears(relay, faults, moment)):
        if sender is not None and sender not in unread:
            later[station] = relay[1][2][stand[station]][stand[sender]]
    return tuple(later)


def unread_lots(relay, faults, moment, stand):
    can = can_be_unread(relay, faults, moment, stand)
    return [lot for many in range(len(can) + 1) for lot in combinations(can, many)]


def laters(relay, faults, moment, stand):
    lots = unread_lots(relay, faults, moment, stand)
    return tuple(sorted({step(relay, faults, moment, stand, lot) for lot in lots}))


def stands(relay):
    return tuple(product(slow.close(relay[1]), repeat=2 ** relay[0][0]))


def is_alike(stand):
    return len(set(stand)) == 1


def table(relay, faults):
    """For each pair of a moment and a stand those that can come next."""
    found = {}
    for moment in moments(relay):
        for stand in stands(relay):
            later = next_moment(relay, moment)
            found[moment, stand] = [(later, end) for end in laters(relay, faults, moment, stand)]
    return found


def ranks(steps):
    """The ranks of all pairs, by going through all of them again and again."""
    zero = {pair for pair in steps if is_alike(pair[1])}
    while True:
        fewer = {pair for pair in zero if all(later in zero for later in steps[pair])}
        if fewer == zero:
            break
        zero = fewer
    found = {pair: 0 for pair in zero}
    while True:
        fresh = {}
        for pair in steps:
            if pair not in found and all(later in found for later in steps[pair]):
                fresh[pair] = 1 + max(found[later] for later in steps[pair])
        if not fresh:
            return {pair: found.get(pair) for pair in steps}
        found.update(fresh)


def settles(steps):
    """The least N by which all are alike for ever, by all pairs that can be behind N steps; None if there is none."""
    now = set(steps)
    number = 0
    while True:
        if all(is_alike(pair[1]) for pair in now):
            return number
        later = {other for pair in now for other in steps[pair]}
        if later == now:
            return None
        now = later
        number += 1


def joins(relay):
    return not slow.broken(relay[1], slow.close(relay[1]))


def paper_on_settling(relay, faults, paper, steps):
    """In a tuple the number of steps that a paper shows, or in a list what it is refused with."""
    if not isinstance(paper, tuple) or not paper or type(paper[0]) is not str:
        return ["form"]
    if {"one": 1, "joins": 2, "ranks": 2, "apart": 6}.get(paper[0]) != len(paper):
        return ["form"]
    single = len(slow.close(relay[1])) == 1
    if paper[0] == "one":
        return (0,) if single else ["one"]
    if paper[0] == "joins":
        if single or not joins(relay) or missable(relay):
            return ["joins"]
        told = slow_plans.paper_on_delay(relay[0], relay[5], faults, paper[1])
        return told if isinstance(told, tuple) and told[0] is not None else ["joins"]
    if paper[0] == "ranks":
        found = ranks(steps)
        whole = tuple(tuple(found[moment, stand] for stand in stands(relay)) for moment in moments(relay))
        if None in found.values() or repr(paper[1]) != repr(whole):
            return ["ranks"]
        return (max(found.values()),)
    return (None,) if shows_apart(relay, faults, paper) else ["apart"]


def is_stand(relay, value):
    return is_tuple_of(value, 2 ** relay[0][0]) and all(type(item) is int and item in slow.close(relay[1]) for item in value)


def run(relay, faults, pair, unreads):
    """The pairs of a run, or None if somebody is unread who cannot be."""
    pairs = [pair]
    for unread in unreads:
        moment, stand = pairs[-1]
        if repr(unread) not in map(repr, unread_lots(relay, faults, moment, stand)):
            return None
        pairs.append((next_moment(relay, moment), step(relay, faults, moment, stand, unread)))
    return pairs


def shows_apart(relay, faults, paper):
    _, moment, stand, unreads, back, tail = paper
    if not is_int(moment, 0, len(moments(relay)) - 1) or not is_stand(relay, stand):
        return False
    if not isinstance(unreads, tuple) or not 1 <= len(unreads) <= 2000 or not is_int(back, 0, len(unreads) - 1):
        return False
    if not isinstance(tail, tuple) or len(tail) > 2000:
        return False
    pairs = run(relay, faults, (moment, stand), unreads)
    if pairs is None or pairs[-1] != pairs[back]:
        return False
    behind = run(relay, faults, pairs[-1], tail)
    return behind is not None and not is_alike(behind[-1][1])


def reached(relay, faults, moment, stand, many):
    """The stands that can be behind so many steps, for each number up to that."""
    rows = [{stand}]
    for _ in range(many):
        rows.append({later for one in rows[-1] for later in laters(relay, faults, moment, one)})
        moment = next_moment(relay, moment)
    return rows
