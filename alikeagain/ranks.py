"""Ranks: how many steps it takes at the most till the copies are alike for ever."""

from alikeagain.errors import TooGreat
from alikeagain.plans import many_moments
from alikeagain.relays import all_stands, count_stands, later_pairs, missed_states, need_faulty, need_relay, need_small
from alikeagain.relays import need_spot, relay_hears

MOST_STANDS = 2000


def is_alike(stand):
    """Whether all states of a stand are the same."""
    return all([state == stand[0] for state in stand])


def steps_table(relay, faults):
    """For each pair of a moment and a stand those that can come next."""
    table = relay_hears(relay, faults)
    missed = missed_states(relay)
    pairs = [(moment, stand) for moment in range(many_moments(relay[5])) for stand in all_stands(relay)]
    return {pair: later_pairs(relay, table, missed, pair) for pair in pairs}


def pairs_ahead(steps):
    """For each pair those ahead of it, from which it can come next."""
    ahead = {pair: [] for pair in steps}
    for pair in steps:
        for later in steps[pair]:
            ahead[later].append(pair)
    return ahead


def leading_to(ahead, ends):
    """All pairs from which some steps, perhaps none, lead to one of these."""
    found = {pair: True for pair in ends}
    level = list(ends)
    while level:
        fresh = []
        for pair in level:
            for before in ahead[pair]:
                if before not in found:
                    found[before] = True
                    fresh.append(before)
        level = fresh
    return found


def ranks_by(steps):
    """The ranks of the pairs that have one."""
    ahead = pairs_ahead(steps)
    apart = leading_to(ahead, [pair for pair in steps if not is_alike(pair[1])])
    level = [pair for pair in steps if pair not in apart]
    found = {pair: 0 for pair in level}
    # Of each other pair, how many that can come next have no rank yet.
    lacking = {pair: len(steps[pair]) for pair in apart}
    number = 0
    while level:
        number += 1
        fresh = []
        for pair in level:
            for before in ahead[pair]:
                if before in lacking:
                    lacking[before] -= 1
                    if lacking[before] == 0:
                        found[before] = number
                        fresh.append(before)
        level = fresh
    return found


def ranks_table(relay, faults):
    """For each moment, for each stand, ascending, its rank, or None."""
    found = ranks_by(steps_table(relay, faults))
    moments = range(many_moments(relay[5]))
    return tuple([tuple([found.get((moment, stand)) for stand in all_stands(relay)]) for moment in moments])


def stands(relay):
    """The ascending tuple of all stands."""
    need_relay(relay)
    if count_stands(relay) > MOST_STANDS:
        raise TooGreat(MOST_STANDS)
    return tuple(all_stands(relay))


def ranks(relay, faults):
    """For each moment, for each stand, ascending, its rank, or None."""
    need_faulty(relay, faults)
    need_small(relay, faults)
    return ranks_table(relay, faults)


def rank_at(relay, faults, moment, stand):
    """The rank of a moment and a stand, or None."""
    need_spot(relay, faults, moment, stand)
    need_small(relay, faults)
    return ranks_by(steps_table(relay, faults)).get((moment, stand))
