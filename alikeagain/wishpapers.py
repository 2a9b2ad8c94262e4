"""Papers on whether wishes hold: rows of spots that do not fulfil them, and tables of numbers."""

from alikeagain.errors import BadPaper, BadStand
from alikeagain.paths import leading_to, row_between, row_round
from alikeagain.relays import count_pairs, missed_states, need_relay, relay_hears
from alikeagain.sayings import are_spots, is_later, is_so_at, laters_at
from alikeagain.wishes import begins_of, first_failing, need_begun, need_few, need_wished, numbers_of, spots_not_so
from alikeagain.wishes import steps_from
from alikeagain.values import ascends, is_headed, is_tuple, is_whole

MOST_SPOTS = 4000
MOST_NUMBER = 4000


def is_sometime(kind, saying, row):
    """Whether a saying is so at some spot of a row."""
    return any([is_so_at(kind, spot, saying) for spot in row])


def is_throughout(kind, saying, row):
    """Whether a saying is so at all spots of a row."""
    return all([is_so_at(kind, spot, saying) for spot in row])


def is_so_until(kind, saying, end, row):
    """Whether a saying is so at all spots of a row ahead of the first one at which another one is, and this is so."""
    for spot in row:
        if is_so_at(kind, spot, end):
            return True
        if not is_so_at(kind, spot, saying):
            return False
    return False


def does_fulfil(kind, wish, ahead, ring):
    """Whether a row of spots, ahead, then the ring again and again, fulfils a wish."""
    word = wish[0]
    row = ahead + ring
    if word == "always":
        return is_throughout(kind, wish[1], row)
    if word == "later":
        return is_sometime(kind, wish[1], row)
    if word == "until":
        return is_so_until(kind, wish[1], wish[2], row)
    if word == "again":
        return is_sometime(kind, wish[1], ring)
    if word == "last":
        return is_throughout(kind, wish[1], ring)
    if word == "within":
        return is_sometime(kind, wish[2], row[:wish[1] + 1])
    return is_throughout(kind, wish[2], ahead[wish[1]:] + ring)


def fulfils(relay, wish, ahead, loop):
    """Whether a row of spots, ahead, then the loop again and again, fulfils a wish."""
    need_relay(relay)
    need_wished(relay, wish)
    if not is_tuple(ahead, 0, MOST_SPOTS) or not are_spots(relay, ahead):
        raise BadStand(ahead)
    if not is_tuple(loop, 1, MOST_SPOTS) or not are_spots(relay, loop):
        raise BadStand(loop)
    return does_fulfil(relay[1], wish, ahead, loop)


def worst_later(steps, numbers, spot):
    """One of the LATERS of a spot that has no number, or else the greatest one."""
    without = [later for later in steps[spot] if later not in numbers]
    return without[0] if without else max(steps[spot], key=lambda later: numbers[later])


def paper_on_row(steps, numbers, row):
    """A paper with "fails", by the first spots of a run, which goes on by the worst ones."""
    ahead, ring = row_round(row[-1], lambda spot: worst_later(steps, numbers, spot))
    return "fails", tuple(row[:-1] + ahead), tuple(ring)


def worst_row(steps, numbers, spot, many):
    """The row from a spot by so many steps to the worst ones."""
    row = [spot]
    for _ in range(many):
        row.append(worst_later(steps, numbers, row[-1]))
    return row


def failing_paper(kind, steps, begins, wish, numbers, spot):
    """A paper with "fails" on a wish that does not hold because of a spot, or of its number."""
    word = wish[0]
    if word in ("later", "until"):
        return paper_on_row(steps, numbers, [spot])
    if word == "within":
        return paper_on_row(steps, numbers, worst_row(steps, numbers, spot, wish[1]))
    if word == "from":
        row = worst_row(steps, numbers, spot, wish[1])
        wrong = spots_not_so(kind, steps, wish[2])
        return paper_on_row(steps, numbers, row[:-1] + row_between(steps, row[-1:], wrong))
    row = row_between(steps, begins, {spot: True})
    if word == "last":
        return "fails", tuple(row), tuple(row_between(steps, steps[spot], {spot: True}))
    return paper_on_row(steps, numbers, row)


def table_from(steps, begins, many):
    """The ascending tuple of the pairs of a spot and of how many steps lead to it, at most so many."""
    level = begins
    found = []
    for number in range(many):
        found.extend([(spot, number) for spot in level])
        level = list({later: True for spot in level for later in steps[spot]})
    # From there on only where runs come to matters, not how soon.
    found.extend([(spot, many) for spot in leading_to(steps, level)])
    return tuple(sorted(found))


def wish_paper(relay, faults, may, begin, wish):
    """A paper on whether a wish holds."""
    need_begun(relay, faults, may, begin)
    need_wished(relay, wish)
    need_few(relay, faults, may)
    steps = steps_from(relay, faults, may, begin)
    begins = begins_of(relay, begin)
    numbers = numbers_of(relay[1], steps, wish)
    spot = first_failing(steps, begins, wish, numbers)
    if spot is not None:
        return failing_paper(relay[1], steps, begins, wish, numbers, spot)
    if wish[0] == "from":
        return "holds", table_from(steps, begins, wish[1])
    return "holds", tuple(sorted(numbers.items()))


def is_table(relay, value):
    """Whether a value is an ascending tuple of pairs of a spot and a number."""
    if not isinstance(value, tuple) or not all([is_tuple(pair, 2, 2) for pair in value]):
        return False
    if not are_spots(relay, [spot for spot, _ in value]):
        return False
    return all([is_whole(number, 0, MOST_NUMBER) for _, number in value]) and ascends(value)


def has_begins(relay, begin, wish, least):
    """Whether each spot of BEGIN has such a number as is wanted there, by the least number of each spot."""
    most = MOST_NUMBER
    if wish[0] == "from":
        most = 0
    elif wish[0] == "within":
        most = wish[1]
    if begin is not None:
        return begin in least and least[begin] <= most
    return len([spot for spot in least if least[spot] <= most]) == count_pairs(relay)


def is_falling(wish, kind, spot, number, most):
    """Whether a spot may have a number, by the greatest number of its LATERS, None if one is not in the table."""
    word = wish[0]
    so = is_so_at(kind, spot, wish[-1])
    if word in ("later", "within", "until") and so:
        return True
    if most is None or word == "until" and not is_so_at(kind, spot, wish[1]):
        return False
    if word == "always":
        return so and number == 0
    if word == "again":
        return so or most < number
    if word == "last":
        return most <= number if so else most < number
    return most < number


def goes_on_from(kind, wish, pairs, pair, laters):
    """Whether a pair of a table with "from" may stand there, by all of its pairs."""
    spot, number = pair
    most = wish[1]
    if number > most or number == most and not is_so_at(kind, spot, wish[2]):
        return False
    return all([(later, min(number + 1, most)) in pairs for later in laters])


def goes_on(kind, wish, numbers, pair, laters):
    """Whether a pair of a table may stand there, by the number of each spot."""
    spot, number = pair
    found = [numbers.get(later) for later in laters]
    return is_falling(wish, kind, spot, number, None if None in found else max(found))


def shows_holds(relay, faults, may, begin, wish, table):
    """Whether a table shows that a wish holds."""
    if not is_table(relay, table):
        return False
    # As the table ascends, of each spot the least number is told last here.
    numbers = {spot: number for spot, number in table[::-1]}
    if not has_begins(relay, begin, wish, numbers):
        return False
    if wish[0] != "from" and len(numbers) < len(table):
        return False
    heard = relay_hears(relay, faults)
    missed = missed_states(relay)
    pairs = {pair: True for pair in table}
    spot = None
    laters = []
    for pair in table:
        # Of "from" a spot may stand there up to 61 times, one behind another.
        if pair[0] != spot:
            spot = pair[0]
            laters = laters_at(relay, heard, missed, may, spot)
        if wish[0] == "from":
            if not goes_on_from(relay[1], wish, pairs, pair, laters):
                return False
        elif not goes_on(relay[1], wish, numbers, pair, laters):
            return False
    return True


def shows_fails(relay, faults, may, begin, wish, paper):
    """Whether a paper shows a run from BEGIN that does not fulfil a wish."""
    _, ahead, ring = paper
    if not isinstance(ahead, tuple) or not isinstance(ring, tuple) or not ring or not are_spots(relay, ahead + ring):
        return False
    row = ahead + ring + ring[:1]
    if begin is not None and row[0] != begin:
        return False
    heard = relay_hears(relay, faults)
    missed = missed_states(relay)
    for number in range(len(row) - 1):
        if not is_later(relay, heard, missed, may, row[number], row[number + 1]):
            return False
    return not does_fulfil(relay[1], wish, ahead, ring)


def check_wish(relay, faults, may, begin, wish, paper):
    """The first word of a paper on whether a wish holds, refused if it does not hold."""
    need_begun(relay, faults, may, begin)
    need_wished(relay, wish)
    if is_headed(paper, "holds", 2):
        if not shows_holds(relay, faults, may, begin, wish, paper[1]):
            raise BadPaper("holds")
        return "holds"
    if is_headed(paper, "fails", 3):
        if not shows_fails(relay, faults, may, begin, wish, paper):
            raise BadPaper("fails")
        return "fails"
    raise BadPaper("form")
