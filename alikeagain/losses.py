"""Losses: which broken wires, which stuck switches delay the news most, or part the stations."""

from alikeagain.delays import delay_by, paper_by
from alikeagain.errors import BadNumber
from alikeagain.faults import each_fault
from alikeagain.nets import rows_of
from alikeagain.plans import hears_by, need_plan
from alikeagain.values import is_whole

MOST_BROKEN = 2


def need_losses(net, plan, many):
    """Nothing; the first of these arguments that is wrong is refused."""
    need_plan(net, plan)
    if not is_whole(many, 0, MOST_BROKEN):
        raise BadNumber(many)


def faults_called(net, word):
    """The ascending list of all faults of a net with this word."""
    return [fault for fault in each_fault(net) if fault[0] == word]


def inner_broken(net):
    """The ascending list of all broken wires of the lines but the first and the last one."""
    return [wire for wire in faults_called(net, "broken") if 0 < wire[1] < rows_of(net)]


def broken_lots(net, many):
    """The lots of at most so many broken wires, in their order."""
    wires = inner_broken(net)
    lots = [()]
    if many > 0:
        lots.extend([(wire,) for wire in wires])
    if many > 1:
        lots.extend([(wire, wires[at]) for number, wire in enumerate(wires) for at in range(number + 1, len(wires))])
    return lots


def delay_with(net, plan, faults):
    """The delay of a plan with faults, or None."""
    return delay_by(plan, hears_by(net, plan, faults))


def worst_by(net, plan, many):
    """The first worst lot of at most so many broken wires, and the delay with it, or None."""
    worst = None
    for lot in broken_lots(net, many):
        late = delay_with(net, plan, lot)
        if late is None:
            return lot, None
        if worst is None or late > worst[1]:
            worst = (lot, late)
    return worst


def worst_lot(net, plan, many):
    """The first worst lot of at most so many broken wires, and the delay with it, or None."""
    need_losses(net, plan, many)
    return worst_by(net, plan, many)


def worst_paper(net, plan, many):
    """The first worst lot of at most so many broken wires, and a paper on the delay with it."""
    need_losses(net, plan, many)
    lot, _ = worst_by(net, plan, many)
    return lot, paper_by(plan, hears_by(net, plan, lot))


def is_lasting(net, plan, many):
    """Whether there is a delay with each lot of at most so many broken wires."""
    need_losses(net, plan, many)
    return worst_by(net, plan, many)[1] is not None


def parting_wires(net, plan):
    """The ascending tuple of the broken wires of all lines with each of which alone there is no delay."""
    need_plan(net, plan)
    return tuple([wire for wire in faults_called(net, "broken") if delay_with(net, plan, (wire,)) is None])


def idle_wires(net, plan):
    """The ascending tuple of the broken wires of all lines with each of which alone all hear as without."""
    need_plan(net, plan)
    sound = hears_by(net, plan, ())
    return tuple([wire for wire in faults_called(net, "broken") if hears_by(net, plan, (wire,)) == sound])


def stuck_delays(net, plan):
    """The ascending tuple of the pairs of a stuck switch and the delay with it alone, or None."""
    need_plan(net, plan)
    return tuple([(fault, delay_with(net, plan, (fault,))) for fault in faults_called(net, "stuck")])
