"""Joining: the four rules by which copies that hear one another come to be alike."""

from alikeagain.errors import BadKind, BadPaper
from alikeagain.kinds import all_updates, can_make, coming_by, coming_of, least_makings, made_beside, merge_of
from alikeagain.kinds import need_kind, state_at, states_made
from alikeagain.values import is_headed, is_lot, is_tuple, is_whole

RULES = ("start", "twice", "turn", "group")
HOW_MANY = {"start": 1, "twice": 1, "turn": 2, "again": 2, "group": 3}


def rule_holds(kind, rule, states):
    """Whether a rule holds for these states, as many as it speaks of."""
    one = states[0]
    if rule == "start":
        return merge_of(kind, one, kind[0]) == one and merge_of(kind, kind[0], one) == one
    if rule == "twice":
        return merge_of(kind, one, one) == one
    other = states[1]
    once = merge_of(kind, one, other)
    if rule == "turn":
        return once == merge_of(kind, other, one)
    if rule == "again":
        return merge_of(kind, once, other) == once
    third = states[2]
    return merge_of(kind, once, third) == merge_of(kind, one, merge_of(kind, other, third))


def rows_over(states, many):
    """All tuples of so many of these states."""
    rows = [()]
    for _ in range(many):
        rows = [(*row, state) for row in rows for state in states]
    return rows


def first_break(kind, rule, states):
    """The first tuple of some states for which a rule does not hold, or None."""
    for row in rows_over(states, HOW_MANY[rule]):
        if not rule_holds(kind, rule, row):
            return row
    return None


def broken_on(kind, rules, states):
    """The tuple of those of some rules that do not hold on these states."""
    return tuple([rule for rule in rules if first_break(kind, rule, states) is not None])


def need_joins(kind):
    """The kind itself, refused if it is none, or does not join."""
    broken = broken_rules(kind)
    if broken:
        raise BadKind(broken[0])
    return kind


def joins(kind):
    """Whether a kind joins."""
    return not broken_rules(kind)


def broken_rules(kind):
    """The tuple of the words of the rules that do not hold on the states that come."""
    need_kind(kind)
    return broken_on(kind, RULES, coming_of(kind))


def making_of_all(kind, states):
    """A making that makes all these states, and for each of them its row, or -1 if it is START."""
    table = least_makings(kind)
    rows = []
    places = []
    for state in states:
        ahead = len(rows)
        for word, place, other in table[state]:
            # What stands ahead of these rows moves the numbers in them, but not -1.
            place = place + ahead if place >= 0 else place
            other = other + ahead if word == "hear" and other >= 0 else other
            rows.append((word, place, other))
        places.append(len(rows) - 1 if table[state] else -1)
    return tuple(rows), tuple(places)


def join_paper(kind):
    """A paper on whether a kind joins."""
    broken = broken_rules(kind)
    states = coming_of(kind)
    if not broken:
        return "joins", states
    row = first_break(kind, broken[0], states)
    making, places = making_of_all(kind, row)
    return "breaks", making, broken[0], places


def is_closed(kind, value):
    """Whether a value is an ascending tuple of states, START among them, that nothing leads out of."""
    if not is_lot(value, len(kind[3]) - 1) or kind[0] not in value:
        return False
    return all([state in value for state in made_beside(kind, all_updates(kind), value)])


def shows_break(kind, paper):
    """Whether a paper shows states that come, and a rule that does not hold for them."""
    _, making, rule, places = paper
    if not can_make(kind, making) or not isinstance(rule, str) or rule not in RULES:
        return False
    if not is_tuple(places, HOW_MANY[rule], HOW_MANY[rule]):
        return False
    if not all([is_whole(place, -1, len(making) - 1) for place in places]):
        return False
    states = states_made(kind, making)
    return not rule_holds(kind, rule, [state_at(kind, states, place) for place in places])


def check_join(kind, paper):
    """The word of a paper on joining, refused if it does not hold."""
    need_kind(kind)
    if is_headed(paper, "joins", 2):
        if not is_closed(kind, paper[1]) or broken_on(kind, RULES, paper[1]):
            raise BadPaper("joins")
        return "joins"
    if is_headed(paper, "breaks", 4):
        if not shows_break(kind, paper):
            raise BadPaper("breaks")
        return "breaks"
    raise BadPaper("form")


def lots_of(numbers):
    """All ascending tuples of some of these ascending numbers, perhaps of none."""
    found = [()]
    for number in numbers:
        found = found + [(*lot, number) for lot in found]
    return found


def is_part(lot, other):
    """Whether a lot has some of the numbers of another one, but not all."""
    return len(lot) < len(other) and all([number in other for number in lot])


def let_lots(kind):
    """The ascending tuple of the greatest lots of updates by which alone a kind joins."""
    need_kind(kind)
    lots = lots_of(all_updates(kind))
    let = [lot for lot in lots if not broken_on(kind, RULES, coming_by(kind, lot))]
    return tuple(sorted([lot for lot in let if not any([is_part(lot, other) for other in let])]))
