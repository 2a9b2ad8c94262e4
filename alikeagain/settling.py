"""Settling: by how many steps a relay is alike for ever, and papers on it."""

from alikeagain.delays import delay_by, paper_by, parted_lot, ring_hears, shows_delay, greatest_first
from alikeagain.errors import BadPaper
from alikeagain.joins import RULES, broken_on
from alikeagain.kinds import coming_of, merge_of
from alikeagain.nets import stations_of
from alikeagain.paths import row_between, row_round
from alikeagain.plans import is_moment, many_moments, moment_behind
from alikeagain.ranks import apart_pairs, are_all_same, ranks_by, ranks_table, steps_table
from alikeagain.relays import behind_round, can_be_unread, count_stands, is_relay_stand, is_unread, missed_states
from alikeagain.relays import need_faulty, need_small, relay_hears
from alikeagain.values import is_headed, is_tuple, is_whole

MOST_UNREADS = 2000
MOST_RANK = 2000
# The words of papers on settling, and how many things these have.
FORMS = (("one", 1), ("joins", 2), ("ranks", 2), ("apart", 6))


def does_join(relay):
    """Whether the kind of a relay joins."""
    return not broken_on(relay[1], RULES, coming_of(relay[1]))


def is_single(relay):
    """Whether one state alone comes."""
    return len(coming_of(relay[1])) == 1


def delay_of(relay, faults):
    """The delay of the plan of a relay, or None."""
    return delay_by(relay[5], relay_hears(relay, faults))


def settles_joined(relay, faults):
    """The least number of steps by which a relay of a kind that joins settles, or None."""
    if is_single(relay):
        return 0
    if missed_states(relay):
        return None
    return delay_of(relay, faults)


def settles_by_ranks(relay, faults):
    """The least number of steps by which a relay settles, by the ranks of all pairs, or None."""
    found = [rank for row in ranks_table(relay, faults) for rank in row]
    if None in found:
        return None
    return max(found)


def least_settling(relay, faults):
    """The least number of steps by which a relay settles, or None, if it is not too great."""
    if does_join(relay):
        return settles_joined(relay, faults)
    need_small(relay, faults)
    return settles_by_ranks(relay, faults)


def settles(relay, faults):
    """The least number of steps by which a relay settles, or None."""
    need_faulty(relay, faults)
    return least_settling(relay, faults)


def failing_parts(relay, faults):
    """The words of the parts by which a relay might not settle: "kind", "book", "plan"."""
    need_faulty(relay, faults)
    parts = []
    if not does_join(relay):
        parts.append("kind")
    if missed_states(relay):
        parts.append("book")
    if delay_of(relay, faults) is None:
        parts.append("plan")
    return tuple(parts)


def unlike_start(relay, states):
    """The first one of some states that is not START."""
    return [state for state in states if state != relay[1][0]][0]


def apart_joined(relay, faults):
    """A paper with "apart" of a relay of a kind that joins, in which no step of RING changes the stand."""
    plan = relay[5]
    table = relay_hears(relay, faults)
    missed = missed_states(relay)
    # Either the station 0 has what may be missed, and is never read, or nobody else hears those who have a state.
    if missed:
        lot = (0,)
        state = unlike_start(relay, missed)
    else:
        lot = parted_lot(ring_hears(plan, table))[1]
        state = unlike_start(relay, coming_of(relay[1]))
    stand = tuple([state if station in lot else relay[1][0] for station in range(stations_of(relay[0]))])
    unreads = [can_be_unread(heard, stand, missed) for heard in ring_hears(plan, table)]
    return "apart", len(plan[0]), stand, tuple(unreads), 0, ()


def unread_between(kind, heard, stand, later):
    """The stations that are unread in a step that leads from a stand to a later one."""
    unread = []
    for station, sender in enumerate(heard):
        if sender is not None and merge_of(kind, stand[station], stand[sender]) != later[station]:
            unread.append(sender)
    return tuple(sorted(unread))


def unreads_along(relay, table, row):
    """Who is unread in each step of a row of pairs."""
    found = []
    for number in range(len(row) - 1):
        moment, stand = row[number]
        found.append(unread_between(relay[1], table[moment], stand, row[number + 1][1]))
    return tuple(found)


def apart_by_ranks(relay, faults):
    """A paper with "apart", by the pairs that have no rank; None if all have."""
    steps = steps_table(relay, faults)
    ranked = ranks_by(steps)
    without = [pair for pair in steps if pair not in ranked]
    if not without:
        return None
    table = relay_hears(relay, faults)
    # If all that can come next had ranks, so had the pair itself.
    ring = row_round(without[0], lambda pair: min([later for later in steps[pair] if later not in ranked]))[1]
    tail = row_between(steps, ring[:1], {pair: True for pair in apart_pairs(steps)})
    unreads = unreads_along(relay, table, ring + ring[:1])
    return "apart", ring[0][0], ring[0][1], unreads, 0, unreads_along(relay, table, tail)


def paper_joined(relay, faults):
    """A paper on settling of a relay of a kind that joins."""
    if is_single(relay):
        return ("one",)
    if settles_joined(relay, faults) is None:
        return apart_joined(relay, faults)
    return "joins", paper_by(relay[5], relay_hears(relay, faults))


def settle_paper(relay, faults):
    """A paper on settling."""
    need_faulty(relay, faults)
    if does_join(relay):
        return paper_joined(relay, faults)
    need_small(relay, faults)
    return apart_by_ranks(relay, faults) or ("ranks", ranks_table(relay, faults))


def shows_joins(relay, faults, paper):
    """Whether the kind joins, none of several states may be missed, and a paper with "delay" holds."""
    if not does_join(relay) or is_single(relay) or missed_states(relay):
        return False
    if not is_headed(paper, "delay", 3):
        return False
    return shows_delay(relay[0], relay[5], relay_hears(relay, faults), paper)


def is_table(value, moments, many):
    """Whether a value has, for each moment, an integer for each one of so many stands."""
    if not is_tuple(value, moments, moments) or not all([is_tuple(row, many, many) for row in value]):
        return False
    return all([is_whole(rank, 0, MOST_RANK) for row in value for rank in row])


def shows_ranks(relay, faults, value):
    """Whether a value has the rank of each moment and each stand."""
    if not is_table(value, many_moments(relay[5]), count_stands(relay)):
        return False
    return value == ranks_table(relay, faults)


def end_of_run(relay, faults, pair, unreads):
    """The pairs of a run, by who is unread in each step; None if somebody there cannot be."""
    table = relay_hears(relay, faults)
    missed = missed_states(relay)
    pairs = [pair]
    for unread in unreads:
        moment, stand = pairs[-1]
        if not is_unread(table[moment], stand, missed, unread):
            return None
        later = behind_round(relay[1], table[moment], stand, unread)
        pairs.append((moment_behind(relay[5], moment, 1), later))
    return pairs


def shows_apart(relay, faults, paper):
    """Whether a paper shows a run that comes round, and from there on to a stand that is not alike."""
    _, moment, stand, unreads, back, tail = paper
    if not is_moment(relay[5], moment) or not is_relay_stand(relay, stand):
        return False
    if not is_tuple(unreads, 1, MOST_UNREADS) or not is_whole(back, 0, len(unreads) - 1):
        return False
    if not is_tuple(tail, 0, MOST_UNREADS):
        return False
    pairs = end_of_run(relay, faults, (moment, stand), unreads)
    if pairs is None or pairs[-1] != pairs[back]:
        return False
    behind = end_of_run(relay, faults, pairs[-1], tail)
    return behind is not None and not are_all_same(behind[-1][1])


def steps_shown(relay, faults, paper):
    """By how many steps a paper shows that a relay settles; False if it does not hold."""
    if paper[0] == "one":
        return 0 if is_single(relay) else False
    if paper[0] == "joins":
        return greatest_first(paper[1][1]) if shows_joins(relay, faults, paper[1]) else False
    if paper[0] == "ranks":
        return max([max(row) for row in paper[1]]) if shows_ranks(relay, faults, paper[1]) else False
    return None if shows_apart(relay, faults, paper) else False


def check_settle(relay, faults, paper):
    """By how many steps a paper shows that a relay settles, None of "apart"; refused if it does not hold."""
    need_faulty(relay, faults)
    if not any([is_headed(paper, word, many) for word, many in FORMS]):
        raise BadPaper("form")
    if paper[0] == "ranks":
        need_small(relay, faults)
    shown = steps_shown(relay, faults, paper)
    if shown is False:
        raise BadPaper(paper[0])
    return shown
