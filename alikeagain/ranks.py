"""Ranks: how many steps it takes at the most till the copies are alike for ever."""

from alikeagain.errors import TooGreat
from alikeagain.paths import levels_past
from alikeagain.plans import many_moments
from alikeagain.relays import all_stands, count_stands, later_pairs, missed_states, need_faulty, need_relay, need_small
from alikeagain.relays import need_spot, relay_hears

MOST_STANDS = 2000


def are_all_same(stand):
    """Whether all states of a stand are the same."""
    return all([state == stand[0] for state in stand])


def all_pairs(relay):
    """The ascending list of all pairs of a moment and a stand."""
    return [(moment, stand) for moment in range(many_moments(relay[5])) for stand in all_stands(relay)]


def steps_table(relay, faults):
    """For each pair of a moment and a stand those that can come next."""
    table = relay_hears(relay, faults)
    missed = missed_states(relay)
    return {pair: later_pairs(relay, table, missed, pair) for pair in all_pairs(relay)}


def apart_pairs(steps):
    """The pairs whose stands are not alike."""
    return [pair for pair in steps if not are_all_same(pair[1])]


def ranks_by(steps):
    """The ranks of the pairs that have one."""
    return levels_past(steps, apart_pairs(steps))


def ranks_table(relay, faults):
    """For each moment, for each stand, ascending, its rank, or None."""
    found = ranks_by(steps_table(relay, faults))
    moments = range(many_moments(relay[5]))
    return tuple([tuple([found.get((moment, stand)) for stand in all_stands(relay)]) for moment in moments])


def stands(relay):
    """The ascending tuple of all stands."""
    need_relay(relay)
    if count_stands(relay) > MOST_STANDS:
        raise TooGreat(MOST_STANDS)
    return tuple(all_stands(relay))


def ranks(relay, faults):
    """For each moment, for each stand, ascending, its rank, or None."""
    need_faulty(relay, faults)
    need_small(relay, faults)
    return ranks_table(relay, faults)


def rank_at(relay, faults, moment, stand):
    """The rank of a moment and a stand, or None."""
    need_spot(relay, faults, moment, stand)
    need_small(relay, faults)
    return ranks_by(steps_table(relay, faults)).get((moment, stand))
