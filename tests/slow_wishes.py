"""What the document tells of sayings and wishes, found by going through all spots, steps and runs of few spots."""

from itertools import product

from tests import slow_relays
from tests.slow import is_int, is_tuple_of

MANY = {"alike": 0, "same": 2, "has": 2, "reads": 2, "moment": 1, "not": 1, "and": 2, "or": 2}
INNER = {"not": (1,), "and": (1, 2), "or": (1, 2)}


def wrong_part(relay, value):
    """The path to the first part of a saying that is none, or None."""
    count = [0]

    def first(part, path):
        count[0] += 1
        if count[0] > 12 or len(path) > 4 or not is_part(relay, part):
            return path
        for at in INNER.get(part[0], ()):
            wrong = first(part[at], (*path, at))
            if wrong is not None:
                return wrong
        return None

    return first(value, ())


def is_part(relay, part):
    if not isinstance(part, tuple) or not part or type(part[0]) is not str or MANY.get(part[0]) != len(part) - 1:
        return False
    last = 2 ** relay[0][0] - 1
    if part[0] == "same":
        return is_int(part[1], 0, last) and is_int(part[2], 0, last) and part[1] != part[2]
    if part[0] == "has":
        return is_int(part[1], 0, last) and is_int(part[2], 0, len(relay[1][3]) - 1)
    if part[0] == "reads":
        return is_int(part[1], 0, last) and is_int(part[2], 0, 9)
    if part[0] == "moment":
        return is_int(part[1], 0, len(slow_relays.moments(relay)) - 1)
    return True


def is_so(relay, spot, saying):
    word, *rest = saying
    moment, stand = spot
    return {
        "alike": lambda: len(set(stand)) == 1,
        "same": lambda: stand[rest[0]] == stand[rest[1]],
        "has": lambda: stand[rest[0]] == rest[1],
        "reads": lambda: relay[1][3][stand[rest[0]]] == rest[1],
        "moment": lambda: moment == rest[0],
        "not": lambda: not is_so(relay, spot, rest[0]),
        "and": lambda: all([is_so(relay, spot, part) for part in rest]),
        "or": lambda: any([is_so(relay, spot, part) for part in rest]),
    }[word]()


def all_spots(relay):
    return [(moment, stand) for moment in slow_relays.moments(relay) for stand in slow_relays.stands(relay)]


def laters(relay, faults, may, spot):
    """All spots to which a step by MAY leads, by all choices of updates and of unread stations."""
    moment, stand = spot
    choices = [[None] + [update for at, update in may if at == station] for station in range(len(stand))]
    found = set()
    for row in product(*choices):
        done = tuple(own if update is None else relay[1][1][update][own] for own, update in zip(stand, row))
        for end in slow_relays.laters(relay, faults, moment, done):
            found.add((slow_relays.next_moment(relay, moment), end))
    return tuple(sorted(found))


def table(relay, faults, may):
    return {spot: laters(relay, faults, may, spot) for spot in all_spots(relay)}


def begins_of(steps, begin):
    return set(steps) if begin is None else {begin}


def behind(steps, spots):
    return {later for spot in spots for later in steps[spot]}


def reached(steps, spots):
    """All spots to which runs come, these among them."""
    found = set(spots)
    while not behind(steps, found) <= found:
        found |= behind(steps, found)
    return found


def holds(relay, steps, begin, wish):
    """Whether a wish holds, by what is so of whole sets of spots."""
    begins = begins_of(steps, begin)
    word = wish[0]
    so = {spot for spot in steps if is_so(relay, spot, wish[-1])}
    if word == "always":
        return reached(steps, begins) <= so
    if word == "later":
        return begins <= surely(steps, so, set(steps))
    if word == "until":
        return begins <= surely(steps, so, {spot for spot in steps if is_so(relay, spot, wish[1])})
    if word == "again":
        return reached(steps, begins) <= surely(steps, so, set(steps))
    if word == "last":
        return not any(spot in reached(steps, steps[spot]) for spot in reached(steps, begins) - so)
    if word == "within":
        wrong = begins - so
        for _ in range(wish[1]):
            wrong = behind(steps, wrong) - so
        return not wrong
    now = begins
    for _ in range(wish[1]):
        now = behind(steps, now)
    return reached(steps, now) <= so


def surely(steps, ends, ways):
    """The spots from which all runs come to one of the ends, ahead of it by these ways alone."""
    found = set(ends)
    while True:
        more = {spot for spot in ways - found if set(steps[spot]) <= found}
        if not more:
            return found
        found |= more


def least(relay, steps, begin, word, saying):
    """The least N by which a wish holds, or None; none is greater than how many spots there are."""
    begins = begins_of(steps, begin)
    so = {spot for spot in steps if is_so(relay, spot, saying)}
    now = begins - so if word == "within" else begins
    for number in range(len(steps) + 2):
        if word == "within" and not now or word == "from" and reached(steps, now) <= so:
            return number
        now = behind(steps, now)
        if word == "within":
            now -= so
    return None


def without(plan, message):
    """A plan in which a message is not sent."""
    moment, station = message
    rounds = list(plan[0] + plan[1])
    settings, senders = rounds[moment]
    rounds[moment] = (settings, tuple(one for one in senders if one != station))
    return tuple(rounds[:len(plan[0])]), tuple(rounds[len(plan[0]):])


def needed(relay, faults, may, wish):
    """All needed messages, by the tables of all relays with one message less."""
    if not holds(relay, table(relay, faults, may), None, wish):
        return None
    plan = relay[5]
    messages = [(moment, sender) for moment, (_, senders) in enumerate(plan[0] + plan[1]) for sender in senders]
    found = []
    for message in messages:
        lesser = (*relay[:5], without(plan, message))
        if not holds(lesser, table(lesser, faults, may), None, wish):
            found.append(message)
    return tuple(found)


def fulfils(relay, wish, ahead, loop):
    """Whether a row of spots fulfils a wish, by a row that is long enough."""
    row = ahead + loop * (61 // len(loop) + 1)
    so = [is_so(relay, spot, wish[-1]) for spot in row]
    # What is so in the loop once more is so again and again.
    ever = so + [is_so(relay, spot, wish[-1]) for spot in loop]
    word = wish[0]
    if word == "always":
        return False not in ever
    if word == "later":
        return True in ever
    if word == "until":
        first = ever.index(True) if True in ever else None
        return first is not None and all(is_so(relay, spot, wish[1]) for spot in row[:first])
    if word == "again":
        return True in ever[-len(loop):]
    if word == "last":
        return False not in ever[-len(loop):]
    if word == "within":
        return True in so[:wish[1] + 1]
    return False not in ever[wish[1]:]


def is_spot(relay, value):
    moments = len(slow_relays.moments(relay))
    return is_tuple_of(value, 2) and is_int(value[0], 0, moments - 1) and slow_relays.is_stand(relay, value[1])


def paper_on_wish(relay, steps, begin, wish, paper):
    """The word of a paper on a wish that holds, or what it is refused with, in a list."""
    if is_tuple_of(paper, 2) and type(paper[0]) is str and paper[0] == "holds":
        return "holds" if shows_holds(relay, steps, begin, wish, paper[1]) else ["holds"]
    if is_tuple_of(paper, 3) and type(paper[0]) is str and paper[0] == "fails":
        return "fails" if shows_fails(relay, steps, begin, wish, paper) else ["fails"]
    return ["form"]


def shows_fails(relay, steps, begin, wish, paper):
    _, ahead, loop = paper
    for row in (ahead, loop):
        if not isinstance(row, tuple) or not all(is_spot(relay, spot) for spot in row):
            return False
    if not loop or begin is not None and (ahead + loop)[0] != begin:
        return False
    row = ahead + loop + loop
    return all(row[at + 1] in steps[row[at]] for at in range(len(row) - 1)) and not fulfils(relay, wish, ahead, loop)


def shows_holds(relay, steps, begin, wish, pairs):
    if not isinstance(pairs, tuple) or not all(is_tuple_of(pair, 2) for pair in pairs):
        return False
    if not all(is_spot(relay, spot) and is_int(number, 0, 4000) for spot, number in pairs):
        return False
    if list(pairs) != sorted(set(pairs)):
        return False
    word = wish[0]
    if word != "from" and len({spot for spot, _ in pairs}) < len(pairs):
        return False
    most = {"from": 0, "within": wish[1]}.get(word, 4000)
    if not begins_of(steps, begin) <= {spot for spot, number in pairs if number <= most}:
        return False
    return all(may_stand(relay, steps, wish, pairs, pair) for pair in pairs)


def may_stand(relay, steps, wish, pairs, pair):
    spot, number = pair
    word = wish[0]
    so = is_so(relay, spot, wish[-1])
    if word == "from":
        later = {(end, min(number + 1, wish[1])) for end in steps[spot]}
        return number <= wish[1] and later <= set(pairs) and (number < wish[1] or so)
    numbers = dict(pairs)
    found = [numbers.get(end, 9999) for end in steps[spot]]
    inside = max(found) < 9999
    less = max(found) < number
    if word == "until":
        return so or is_so(relay, spot, wish[1]) and less
    return {
        "always": so and number == 0 and inside,
        "later": so or less,
        "within": so or less,
        "again": inside and (so or less),
        "last": inside and max(found) <= number and (so or less),
    }[word]
