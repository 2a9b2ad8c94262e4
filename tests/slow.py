"""What the document tells, found by going through everything, by other means than the package."""

from itertools import combinations, permutations, product


# Nets, rounds, faults.

def stations(net):
    return range(2 ** net[0])


def place_behind(net, line, wire):
    """The place of the row behind a line to which a wire of it comes."""
    return wire if line == 0 else net[1][line - 1][wire]


def all_settings(net):
    """All settings of a net, ascending."""
    row = list(product((0, 1), repeat=2 ** (net[0] - 1)))
    return list(product(row, repeat=len(net[1]) + 1))


def with_stuck(settings, faults):
    """Settings as they are when switches are stuck."""
    rows = [list(row) for row in settings]
    for fault in faults:
        if fault[0] == "stuck":
            rows[fault[1]][fault[2]] = fault[3]
    return rows


def track(net, settings, faults, station):
    """The pair of a track, and whether the message comes to its end."""
    rows = with_stuck(settings, faults)
    wires = [station]
    for line in range(len(net[1]) + 2):
        if ("broken", line, wires[-1]) in faults:
            return tuple(wires), False
        if line <= len(net[1]):
            place = place_behind(net, line, wires[-1])
            switch, side = divmod(place, 2)
            side = side if rows[line][switch] == 0 else 1 - side
            wires.append(2 * switch + side)
    return tuple(wires), True


def hears(net, one_round, faults):
    settings, senders = one_round
    found = {}
    for sender in senders:
        wires, whole = track(net, settings, faults, sender)
        if whole:
            assert wires[-1] not in found
            found[wires[-1]] = sender
    return tuple(found.get(station) for station in stations(net))


def ways(net, one, other):
    """All ways between two stations, found from tracks by all settings."""
    found = {track(net, settings, (), one)[0] for settings in all_settings(net)}
    return tuple(sorted(way for way in found if way[-1] == other))


def left(net, faults, one, other):
    """The ways that messages can go with faults."""
    found = set()
    for settings in all_settings(net):
        wires, whole = track(net, settings, faults, one)
        if whole and wires[-1] == other:
            found.add(wires)
    return tuple(sorted(found))


def all_single(net):
    """All faults of just one, each a tuple of that one."""
    rows = len(net[1]) + 1
    found = [(("broken", line, wire),) for line in range(rows + 1) for wire in stations(net)]
    for row, switch, setting in product(range(rows), range(2 ** net[0] // 2), (0, 1)):
        found.append((("stuck", row, switch, setting),))
    return sorted(found)


def all_faults(net):
    """All faults of at most two."""
    singles = [faults[0] for faults in all_single(net)]
    pairs = [pair for pair in combinations(singles, 2) if pair[0][:3] != pair[1][:3] or pair[0][0] == "broken"]
    return [()] + [(fault,) for fault in singles] + pairs


def all_hearings(net):
    """All hearings of a net."""
    found = product((None, *stations(net)), repeat=2 ** net[0])
    return [row for row in found if all(row.count(item) == 1 for item in row if item is not None)]


def senders(hearing):
    return tuple(sorted(item for item in hearing if item is not None))


def settings_by_hearing(net, faults):
    """For each hearing that the net can have the list of all settings for it."""
    found = {}
    for settings in all_settings(net):
        full = hears(net, (settings, tuple(stations(net))), faults)
        heard = senders(full)
        for many in range(len(heard) + 1):
            for lot in combinations(heard, many):
                row = tuple(item if item in lot else None for item in full)
                found.setdefault(row, []).append(settings)
    return found


def fewest_rounds(net, wants, faults):
    """How many rounds serve wants at least, found by trying all lots of full rounds, or None."""
    full = {hears(net, (settings, tuple(stations(net))), faults) for settings in all_settings(net)}
    lots = {frozenset(want for want in wants if row[want[1]] == want[0]) for row in full}
    reached = {frozenset()}
    for many in range(len(wants) + 1):
        if frozenset(wants) in reached:
            return many
        reached = {one | other for one in reached for other in lots}
    return None


def is_tuple_of(value, many):
    return isinstance(value, tuple) and len(value) == many


def is_int(value, least, most):
    return type(value) is int and least <= value <= most


def paper_on_hearing(net, hearing, faults, paper):
    """The word of a paper on a hearing that holds, or what it is refused with, in a list."""
    if not is_tuple_of(paper, 2) or type(paper[0]) is not str or paper[0] not in ("round", "tree"):
        return ["form"]
    if paper[0] == "round":
        return "round" if shows_round(net, hearing, faults, paper[1]) else ["round"]
    return "tree" if shows_tree(net, hearing, faults, paper[1], []) else ["tree"]


def shows_round(net, hearing, faults, value):
    if not is_tuple_of(value, 2):
        return False
    # Two values with one repr are the same here, True being no 1.
    if repr(value[0]) not in [repr(settings) for settings in all_settings(net)]:
        return False
    lots = [lot for many in range(2 ** net[0] + 1) for lot in combinations(stations(net), many)]
    return repr(value[1]) in [repr(lot) for lot in lots] and hears(net, value, faults) == hearing


def shows_tree(net, hearing, faults, value, chosen):
    if not is_tuple_of(value, 2) or not is_int(value[0], 0, 2 ** net[0] - 1):
        return False
    station, trees = value
    if hearing[station] is None or station in [way[-1] for way in chosen]:
        return False
    beside = []
    for way in left(net, faults, hearing[station], station):
        if not any((line, wire) in enumerate(taken) for taken in chosen for line, wire in enumerate(way)):
            beside.append(way)
    if not is_tuple_of(trees, len(beside)):
        return False
    return all(shows_tree(net, hearing, faults, tree, chosen + [way]) for way, tree in zip(beside, trees))


# Texts, words, books.

def doublings(word, size):
    """All strings that come by one doubling, each with its place."""
    found = []
    for place in range(len(word) - size + 1):
        signs = word[place:place + size]
        found.append((place, word[:place + size] + signs + word[place + size:]))
    return found


def copies(text, size, times):
    """For each string that is heard of a text by how many doublings it comes of it."""
    found = {text: 0}
    last = [text]
    for number in range(1, times + 1):
        fresh = {other for word in last for _, other in doublings(word, size)}
        for word in fresh:
            assert word not in found
            found[word] = number
        last = fresh
    return found


def root(word, size):
    """What is left when doubled stretches are taken out."""
    for place in range(len(word) - 2 * size + 1):
        if word[place:place + size] == word[place + size:place + 2 * size]:
            return root(word[:place] + word[place + size:], size)
    return word


def texts(signs, length):
    """All texts of so many signs and of this length."""
    return ["".join(row) for row in product("abcdef"[:signs], repeat=length)]


def mixed_up(book, size, times):
    """The pairs of texts of which one string is heard."""
    heard = [set(copies(text, size, times)) for text in book]
    return tuple(pair for pair in combinations(range(len(book)), 2) if heard[pair[0]] & heard[pair[1]])


def end_of(text, size, times, places):
    """What doublings at places make of a text, or None."""
    if not isinstance(places, tuple) or len(places) > times:
        return None
    for place in places:
        if type(place) is not int:
            return None
        behind = dict(doublings(text, size))
        if place not in behind:
            return None
        text = behind[place]
    return text


def stays_extras(word, size):
    """The EXTRAS of a word, by counting stretches of signs that stay."""
    if len(word) < size:
        return ()
    marks = "".join("s" if word[at] == word[at - size] else "t" for at in range(size, len(word)))
    return tuple(len(run) // size for run in marks.split("t"))


def paper_on_book(book, size, times, paper):
    """The first item of a paper on a book that holds, or what it is refused with, in a list."""
    if is_tuple_of(paper, 2) and type(paper[0]) is str and paper[0] == "clear":
        rows = tuple((root(text, size), stays_extras(text, size)) for text in book)
        return "clear" if repr(paper[1]) == repr(rows) and not mixed_up(book, size, times) else ["clear"]
    if is_tuple_of(paper, 5) and type(paper[0]) is str and paper[0] == "mixed":
        _, one, other, places, others = paper
        if not is_int(one, 0, len(book) - 1) or not is_int(other, one + 1, len(book) - 1):
            return ["mixed"]
        ends = end_of(book[one], size, times, places), end_of(book[other], size, times, others)
        return "mixed" if ends[0] is not None and ends[0] == ends[1] else ["mixed"]
    return ["form"]


# Kinds.

def close(kind, updates=None):
    """The states that come, by some updates alone and by hearing."""
    used = kind[1] if updates is None else [kind[1][number] for number in updates]
    found = {kind[0]}
    while True:
        wider = set(found)
        wider |= {row[state] for row in used for state in found}
        wider |= {kind[2][one][other] for one in found for other in found}
        if wider == found:
            return tuple(sorted(found))
        found = wider


def holds(kind, rule, row):
    """Whether a rule holds for some states."""
    merge = kind[2]
    start = kind[0]
    return {
        "start": lambda x: merge[x][start] == x == merge[start][x],
        "twice": lambda x: merge[x][x] == x,
        "turn": lambda x, y: merge[x][y] == merge[y][x],
        "group": lambda x, y, z: merge[merge[x][y]][z] == merge[x][merge[y][z]],
        "again": lambda x, y: merge[merge[x][y]][y] == merge[x][y],
    }[rule](*row)


MANY = {"start": 1, "twice": 1, "turn": 2, "group": 3, "again": 2}
JOIN_RULES = ("start", "twice", "turn", "group")
HEARING_RULES = ("turn", "group", "again")


def broken(kind, states, rules=JOIN_RULES):
    """The rules that do not hold on some states."""
    return tuple(rule for rule in rules if not all(holds(kind, rule, row) for row in product(states, repeat=MANY[rule])))


def is_closed(kind, states):
    if not isinstance(states, tuple) or not all(is_int(state, 0, len(kind[3]) - 1) for state in states):
        return False
    if list(states) != sorted(set(states)) or kind[0] not in states:
        return False
    inner = all(row[state] in states for row in kind[1] for state in states)
    return inner and all(kind[2][one][other] in states for one in states for other in states)


def run_making(kind, value):
    """The states of the rows of a making, or None if a value is none."""
    if not isinstance(value, tuple) or len(value) > 30:
        return None
    states = {-1: kind[0]}
    for number, row in enumerate(value):
        if not is_tuple_of(row, 3) or type(row[0]) is not str or not is_int(row[1], -1, number - 1):
            return None
        if row[0] == "do" and is_int(row[2], 0, len(kind[1]) - 1):
            states[number] = kind[1][row[2]][states[row[1]]]
        elif row[0] == "hear" and is_int(row[2], -1, number - 1):
            states[number] = kind[2][states[row[1]]][states[row[2]]]
        else:
            return None
    return states


def rows_at_least(kind, wanted, most):
    """How many rows a making of a state has at least, found by making all of at most so many rows."""
    level = {(kind[0],)}
    for many in range(most + 1):
        if any(row[-1] == wanted for row in level):
            return many
        longer = set()
        for row in level:
            fresh = {update[state] for update in kind[1] for state in row}
            fresh |= {kind[2][one][other] for one in row for other in row}
            longer |= {(*row, state) for state in fresh}
        level = longer
    return None


def paper_on_joining(kind, paper):
    """The word of a paper on joining that holds, or what it is refused with, in a list."""
    if is_tuple_of(paper, 2) and type(paper[0]) is str and paper[0] == "joins":
        return "joins" if is_closed(kind, paper[1]) and not broken(kind, paper[1]) else ["joins"]
    if not is_tuple_of(paper, 4) or type(paper[0]) is not str or paper[0] != "breaks":
        return ["form"]
    _, making, rule, places = paper
    states = run_making(kind, making)
    if states is None or type(rule) is not str or rule not in JOIN_RULES or not is_tuple_of(places, MANY[rule]):
        return ["breaks"]
    if not all(is_int(place, -1, len(making) - 1) for place in places):
        return ["breaks"]
    return ["breaks"] if holds(kind, rule, [states[place] for place in places]) else "breaks"


def run_steps(kind, stand, steps):
    """The states, and of whom each station has heard, behind steps."""
    states = dict(enumerate(stand))
    known = {station: {station} for station in states}
    for one, other in steps:
        states[one] = kind[2][states[one]][states[other]]
        known[one] = known[one] | known[other]
    return states, known


def are_steps(value, many, most):
    if not isinstance(value, tuple) or len(value) > most:
        return False
    for step in value:
        if not is_tuple_of(step, 2) or not all(is_int(station, 0, many - 1) for station in step):
            return False
        if step[0] == step[1]:
            return False
    return True


def paper_on_hearing_of(kind, paper):
    """The word of a paper on what has been heard of that holds, or what it is refused with, in a list."""
    if is_tuple_of(paper, 2) and type(paper[0]) is str and paper[0] == "same":
        return "same" if is_closed(kind, paper[1]) and not broken(kind, paper[1], HEARING_RULES) else ["same"]
    if not is_tuple_of(paper, 4) or type(paper[0]) is not str or paper[0] != "unlike":
        return ["form"]
    _, stand, one, other = paper
    if not isinstance(stand, tuple) or len(stand) not in (2, 3):
        return ["unlike"]
    if not all(type(state) is int and state in close(kind) for state in stand):
        return ["unlike"]
    ends = []
    for end in (one, other):
        if not is_tuple_of(end, 2) or not are_steps(end[0], len(stand), 4) or not is_int(end[1], 0, len(stand) - 1):
            return ["unlike"]
        states, known = run_steps(kind, stand, end[0])
        ends.append((states[end[1]], known[end[1]]))
    return "unlike" if ends[0][1] == ends[1][1] and ends[0][0] != ends[1][0] else ["unlike"]


def steps_matter(kind, many, most):
    """Whether, for stands of so many stations, what is heard of tells the state behind all rows of so many steps."""
    pairs = list(permutations(range(many), 2))
    for stand in product(close(kind), repeat=many):
        told = {}
        for number in range(most + 1):
            for steps in product(pairs, repeat=number):
                states, known = run_steps(kind, stand, steps)
                for station in states:
                    if told.setdefault(frozenset(known[station]), states[station]) != states[station]:
                        return False
    return True


def joined(kind, states):
    total = kind[0]
    for state in states:
        total = kind[2][total][state]
    return total


def at_most(kind, one, other):
    return kind[2][other][one] == other


def all_chains(kind):
    """All chains of a kind that joins."""
    states = close(kind)
    found = []
    for many in range(1, len(states) + 1):
        for row in permutations(states, many):
            if all(at_most(kind, row[at], row[at + 1]) for at in range(many - 1)):
                found.append(row)
    return found


def breadth(kind):
    """The greatest number of unlike states whose join is that of no fewer of them."""
    states = close(kind)
    best = 0
    for many in range(len(states) + 1):
        for lot in combinations(states, many):
            fewer = [part for less in range(many) for part in combinations(lot, less)]
            if all(joined(kind, part) != joined(kind, lot) for part in fewer):
                best = many
    return best


# Telling, showing, adding.

def lots(many):
    """All lots of numbers below many."""
    return [lot for less in range(many + 1) for lot in combinations(range(many), less)]


def tells(kind, stand, lot):
    return joined(kind, [stand[station] for station in lot]) == joined(kind, stand)


def heard_alike(kind, one, other):
    """Whether two states are read alike whatever is heard."""
    behind = [(one, other)] + [(kind[2][one][third], kind[2][other][third]) for third in close(kind)]
    return all(kind[3][first] == kind[3][second] for first, second in behind)


def come_alike(kind, one, other):
    """Whether two states are read alike whatever comes, by all pairs to which both can come."""
    seen = {(one, other)}
    waiting = [(one, other)]
    while waiting:
        first, second = waiting.pop()
        if kind[3][first] != kind[3][second]:
            return False
        pairs = [(row[first], row[second]) for row in kind[1]]
        pairs += [(kind[2][first][third], kind[2][second][third]) for third in close(kind)]
        waiting += [pair for pair in pairs if pair not in seen]
        seen |= set(pairs)
    return True


def paper_on_adding(kind, paper):
    """The word of a paper on whether all updates add that holds, or what it is refused with, in a list."""
    if is_tuple_of(paper, 2) and type(paper[0]) is str and paper[0] == "adds":
        if not is_tuple_of(paper[1], len(kind[1])) or not all(type(state) is int for state in paper[1]):
            return ["adds"]
        for row, wanted in zip(kind[1], paper[1]):
            if wanted not in close(kind) or any(row[state] != kind[2][state][wanted] for state in close(kind)):
                return ["adds"]
        return "adds"
    if not is_tuple_of(paper, 3) or type(paper[0]) is not str or paper[0] != "asks":
        return ["form"]
    states = run_making(kind, paper[1])
    if states is None or not is_int(paper[2], 0, len(kind[1]) - 1):
        return ["asks"]
    last = states[len(paper[1]) - 1]
    row = kind[1][paper[2]]
    return "asks" if row[last] != kind[2][last][row[kind[0]]] else ["asks"]
