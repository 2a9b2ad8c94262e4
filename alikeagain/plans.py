"""Plans: rounds ahead, and a ring of rounds that comes again and again."""

from alikeagain.errors import BadNumber, BadPlan
from alikeagain.faults import need_faults
from alikeagain.nets import need_net
from alikeagain.rounds import hears_of, is_round
from alikeagain.values import is_tuple, is_whole

MOST_ROUNDS = 6


def need_rounds(net, rounds, place, least):
    """Some rounds at a place of a plan, refused if they are none."""
    if not is_tuple(rounds, least, MOST_ROUNDS):
        raise BadPlan((place,))
    for number, one_round in enumerate(rounds):
        if not is_round(net, one_round):
            raise BadPlan((place, number))
    return rounds


def need_plan(net, plan):
    """The plan itself, refused if it is none of the net."""
    need_net(net)
    if not is_tuple(plan, 2, 2):
        raise BadPlan(())
    need_rounds(net, plan[0], 0, 0)
    need_rounds(net, plan[1], 1, 1)
    return plan


def many_moments(plan):
    """How many moments a plan has."""
    return len(plan[0]) + len(plan[1])


def is_moment(plan, value):
    """Whether a value is a moment of a plan."""
    return is_whole(value, 0, many_moments(plan) - 1)


def need_moment(plan, moment):
    """The moment itself, refused if it is none of the plan."""
    if not is_moment(plan, moment):
        raise BadNumber(moment)
    return moment


def moment_behind(plan, moment, many):
    """The moment so many rounds behind a moment."""
    ahead, ring = plan
    place = moment + many
    if place < len(ahead):
        return place
    return len(ahead) + (place - len(ahead)) % len(ring)


def moments_from(plan, moment, many):
    """So many moments, one behind another, from a moment on."""
    return [moment_behind(plan, moment, number) for number in range(many)]


def hears_by(net, plan, faults):
    """For each moment of a plan, for each station, the one whose message comes to it, or None."""
    return tuple([hears_of(net, one_round, faults) for one_round in plan[0] + plan[1]])


def next_moment(net, plan, moment):
    """The moment behind a moment."""
    need_plan(net, plan)
    need_moment(plan, moment)
    return moment_behind(plan, moment, 1)


def hears_at(net, plan, faults, moment):
    """For each station the one whose message comes to it at a moment, or None."""
    need_plan(net, plan)
    need_faults(net, faults)
    need_moment(plan, moment)
    return hears_by(net, plan, faults)[moment]


def turned_ring(net, plan, many):
    """The plan without rounds ahead whose RING begins so many rounds later."""
    need_plan(net, plan)
    if not is_whole(many, 0, MOST_ROUNDS):
        raise BadNumber(many)
    ring = plan[1]
    first = many % len(ring)
    return (), ring[first:] + ring[:first]
