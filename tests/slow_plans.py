"""What the document tells of plans, news and delays, found by going through everything."""

from itertools import combinations, product

from tests import slow
from tests.slow import is_int, is_tuple_of


def round_at(plan, moment):
    ahead, ring = plan
    return ahead[moment] if moment < len(ahead) else ring[moment - len(ahead)]


def next_moment(plan, moment):
    last = len(plan[0]) + len(plan[1]) - 1
    return len(plan[0]) if moment == last else moment + 1


def moments(plan):
    return range(len(plan[0]) + len(plan[1]))


def later(plan, moment, many):
    for _ in range(many):
        moment = next_moment(plan, moment)
    return moment


def hears_at(net, plan, faults, moment):
    return slow.hears(net, round_at(plan, moment), faults)


def knowing(net, plan, faults, moment, many):
    """For each station the set of those of which it has news behind so many rounds, for each number of rounds."""
    table = [hears_at(net, plan, faults, at) for at in moments(plan)]
    known = [{station} for station in slow.stations(net)]
    rows = [known]
    for _ in range(many):
        heard = table[moment]
        known = [mine if heard[station] is None else mine | known[heard[station]] for station, mine in enumerate(known)]
        rows.append(known)
        moment = next_moment(plan, moment)
    return rows


def first_news(net, plan, faults, moment):
    rows = knowing(net, plan, faults, moment, 60)
    stations = slow.stations(net)
    first = lambda one, other: next((many for many, known in enumerate(rows) if one in known[other]), None)
    return tuple(tuple(first(one, other) for other in stations) for one in stations)


def moment_delay(net, plan, faults, moment):
    numbers = [number for row in first_news(net, plan, faults, moment) for number in row]
    return None if None in numbers else max(numbers)


def delay(net, plan, faults):
    numbers = [moment_delay(net, plan, faults, moment) for moment in moments(plan)]
    return None if None in numbers else max(numbers)


def all_ways(net, plan, faults, moment, many):
    """All ways of so many stations from a moment on."""
    table = [hears_at(net, plan, faults, later(plan, moment, number)) for number in range(many - 1)]
    found = []
    for way in product(slow.stations(net), repeat=many):
        if all(way[at + 1] == way[at] or table[at][way[at + 1]] == way[at] for at in range(many - 1)):
            found.append(way)
    return found


def parted_lots(net, plan, faults):
    """All lots of which nobody outside hears anybody within in any round of RING."""
    return [lot for many in range(1, 2 ** net[0]) for lot in combinations(slow.stations(net), many)
            if is_parted(net, plan, faults, lot)]


def is_parted(net, plan, faults, lot):
    for one_round in plan[1]:
        for station, heard in enumerate(slow.hears(net, one_round, faults)):
            if heard is not None and heard in lot and station not in lot:
                return False
    return True


def is_lot(net, value):
    return isinstance(value, tuple) and all(is_int(item, 0, 2 ** net[0] - 1) for item in value) \
        and list(value) == sorted(set(value))


def paper_on_delay(net, plan, faults, paper):
    """In a tuple the delay that a paper shows, or in a list what it is refused with."""
    if is_tuple_of(paper, 3) and type(paper[0]) is str and paper[0] == "delay":
        most = greatest(net, plan, faults, paper[1])
        return (most,) if most is not None and shows_late(net, plan, faults, paper[2], most) else ["delay"]
    if is_tuple_of(paper, 4) and type(paper[0]) is str and paper[0] == "never":
        _, one, other, lot = paper
        if not is_int(one, 0, 2 ** net[0] - 1) or not is_int(other, 0, 2 ** net[0] - 1) or not is_lot(net, lot):
            return ["never"]
        return (None,) if one in lot and other not in lot and is_parted(net, plan, faults, lot) else ["never"]
    return ["form"]


def greatest(net, plan, faults, firsts):
    """The greatest integer of FIRSTS, None if they are none."""
    many = 2 ** net[0]
    if not is_tuple_of(firsts, len(moments(plan))):
        return None
    for moment, rows in enumerate(firsts):
        if not is_tuple_of(rows, many) or not all(is_tuple_of(row, many) for row in rows):
            return None
        for one, other in product(range(many), repeat=2):
            number = rows[one][other]
            if not all(is_int(item, 0, 60) for item in rows[one]) or (number == 0) != (one == other):
                return None
            if number > 0:
                heard = hears_at(net, plan, faults, later(plan, moment, number - 1))[other]
                if heard is None or rows[one][heard] >= number:
                    return None
    return max(number for rows in firsts for row in rows for number in row)


def shows_late(net, plan, faults, late, most):
    if not is_tuple_of(late, 4) or not is_tuple_of(late[3], most) or not all(is_lot(net, lot) for lot in late[3]):
        return False
    moment, one, other, lots = late
    if not is_int(moment, 0, len(moments(plan)) - 1) or not all(is_int(item, 0, 2 ** net[0] - 1) for item in (one, other)):
        return False
    if one not in lots[0] or other in lots[-1]:
        return False
    for number in range(most - 1):
        heard = hears_at(net, plan, faults, later(plan, moment, number))
        hearers = {station for station, sender in enumerate(heard) if sender in lots[number]}
        if not set(lots[number]) | hearers <= set(lots[number + 1]):
            return False
    return True
