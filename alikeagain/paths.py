"""Rows of steps from place to place: where they lead, how long they are, where they come round."""


def places_ahead(steps):
    """For each place those ahead of it, from which it can come next, by those that can come next of each place."""
    ahead = {place: [] for place in steps}
    for place in steps:
        for later in steps[place]:
            ahead[later].append(place)
    return ahead


def leading_to(ahead, ends):
    """All places from which some steps, perhaps none, lead to one of these."""
    found = {place: True for place in ends}
    level = list(ends)
    while level:
        fresh = []
        for place in level:
            for before in ahead[place]:
                if before not in found:
                    found[before] = True
                    fresh.append(before)
        level = fresh
    return found


def levels_to(steps, ends, barred):
    """By how many steps at the most each place comes to an end, of those that surely do; no barred one does."""
    ahead = places_ahead(steps)
    found = {place: 0 for place in ends}
    # Of each other place, how many that can come next have no number yet.
    lacking = {place: len(steps[place]) for place in steps if place not in found and place not in barred}
    level = list(ends)
    number = 0
    while level:
        number += 1
        fresh = []
        for place in level:
            for before in ahead[place]:
                if before in lacking:
                    lacking[before] -= 1
                    if lacking[before] == 0:
                        found[before] = number
                        fresh.append(before)
        level = fresh
    return found


def levels_past(steps, wrong):
    """By how many steps at the most each place is past all wrong ones for ever, of those that surely are."""
    leading = leading_to(places_ahead(steps), wrong)
    return levels_to(steps, [place for place in steps if place not in leading], {})


def row_to(before, place):
    """The row of places to a place, by the one ahead of each, None of the first one."""
    row = [place]
    while before[row[-1]] is not None:
        row.append(before[row[-1]])
    return row[::-1]


def row_between(steps, begins, ends):
    """A row of as few places as can be from one of some places to one of the ends, or None."""
    before = {place: None for place in begins}
    level = list(before)
    while level:
        fresh = []
        for place in level:
            if place in ends:
                return row_to(before, place)
            for later in steps[place]:
                if later not in before:
                    before[later] = place
                    fresh.append(later)
        level = fresh
    return None


def row_round(first, follow):
    """The row from a place on, by what follows each one: what is ahead of the ring it comes to, and this ring."""
    row = [first]
    places = {first: 0}
    while True:
        later = follow(row[-1])
        if later in places:
            return row[:places[later]], row[places[later]:]
        places[later] = len(row)
        row.append(later)


def places_from(steps, begins):
    """All places to which some steps, perhaps none, lead from some places."""
    return leading_to(steps, begins)


def finished(steps):
    """All places, each behind those to which it leads, if these do not lead back to it."""
    order = []
    found = {}
    for first in steps:
        # By turns: the place, and the number of the step from it that is to be taken next.
        waiting = [] if first in found else [(first, 0)]
        found[first] = True
        while waiting:
            place, at = waiting.pop()
            if at == len(steps[place]):
                order.append(place)
                continue
            waiting.append((place, at + 1))
            later = steps[place][at]
            if later not in found:
                found[later] = True
                waiting.append((later, 0))
    return order


def ring_numbers(steps):
    """For each place a number, the same for those that lead to one another, else greater than those it leads to."""
    ahead = places_ahead(steps)
    found = {}
    number = len(steps)
    for first in finished(steps)[::-1]:
        level = [] if first in found else [first]
        if level:
            number -= 1
            found[first] = number
        while level:
            fresh = []
            for place in level:
                for before in ahead[place]:
                    if before not in found:
                        found[before] = number
                        fresh.append(before)
            level = fresh
    return found


def on_rings(steps, numbers):
    """The places from which some steps lead back to themselves, by the numbers of rings."""
    many = {}
    for number in list(numbers.values()):
        many[number] = many.get(number, 0) + 1
    return {place: True for place in steps if many[numbers[place]] > 1 or place in steps[place]}
