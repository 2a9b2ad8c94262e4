"""Texts and words, and what doublings make of them."""

from math import comb

from alikeagain.errors import BadLetters, BadNumber, TooGreat
from alikeagain.values import is_whole

SIGNS = "abcdef"
LONGEST_TEXT = 24
LONGEST_WORD = 40
MOST_WORDS = 500


def is_letters(value, most):
    """Whether a value is a string of signs, one at least and at most so many."""
    if not isinstance(value, str) or not 1 <= len(value) <= most:
        return False
    return all([sign in SIGNS for sign in value])


def is_text(value):
    """Whether a value is a TEXT."""
    return is_letters(value, LONGEST_TEXT)


def need_text(text):
    """The TEXT itself, refused if it is none."""
    if not is_text(text):
        raise BadLetters(text)
    return text


def need_word(word):
    """The WORD itself, refused if it is none."""
    if not is_letters(word, LONGEST_WORD):
        raise BadLetters(word)
    return word


def need_size(size):
    """The SIZE itself, refused if it is none."""
    if not is_whole(size, 1, 4):
        raise BadNumber(size)
    return size


def need_times(times):
    """The TIMES themselves, refused if they are none."""
    if not is_whole(times, 0, 4):
        raise BadNumber(times)
    return times


def doubled_at(word, size, place):
    """What a doubling at a place makes of a string."""
    behind = place + size
    return word[:behind] + word[place:behind] + word[behind:]


def copied(word, size, place):
    """The WORD behind a doubling at a place."""
    need_word(word)
    need_size(size)
    if not is_whole(place, 0, len(word) - size):
        raise BadNumber(place)
    if len(word) + size > LONGEST_WORD:
        raise TooGreat(LONGEST_WORD)
    return doubled_at(word, size, place)


def lead_of(word, size):
    """The first signs of a string, as many as SIZE, or all of it if it is shorter."""
    return word[:size]


def steps_of(word, size):
    """How far each sign behind the LEAD is turned from the one SIZE places ahead of it, 0 if it stays."""
    numbers = [SIGNS.index(sign) for sign in word]
    return [(numbers[at] - numbers[at - size]) % len(SIGNS) for at in range(size, len(word))]


def turns_of(word, size):
    """The TURNS of a string."""
    return tuple([step for step in steps_of(word, size) if step > 0])


def stays_of(word, size):
    """The STAYS of a string."""
    if len(word) < size:
        return ()
    counts = [0]
    for step in steps_of(word, size):
        if step > 0:
            counts.append(0)
        else:
            counts[-1] += 1
    return tuple(counts)


def spelled(lead_part, turn_row, stay_row, size):
    """The string that has this LEAD, these TURNS and STAYS."""
    numbers = [SIGNS.index(sign) for sign in lead_part]
    for place, count in enumerate(stay_row):
        if place > 0:
            numbers.append((numbers[-size] + turn_row[place - 1]) % len(SIGNS))
        for _ in range(count):
            numbers.append(numbers[-size])
    return "".join([SIGNS[number] for number in numbers])


def root_of(word, size):
    """The ROOT of a string."""
    rests = [count % size for count in stays_of(word, size)]
    return spelled(lead_of(word, size), turns_of(word, size), rests, size)


def extras_of(word, size):
    """The EXTRAS of a string."""
    return tuple([count // size for count in stays_of(word, size)])


def with_extras(word, size, counts):
    """The string that has the ROOT of a string, and these EXTRAS."""
    stay_row = [stay % size + count * size for stay, count in zip(stays_of(word, size), counts)]
    return spelled(lead_of(word, size), turns_of(word, size), stay_row, size)


def lead(word, size):
    """The LEAD of a WORD."""
    need_word(word)
    need_size(size)
    return lead_of(word, size)


def turns(word, size):
    """The TURNS of a WORD."""
    need_word(word)
    need_size(size)
    return turns_of(word, size)


def stays(word, size):
    """The STAYS of a WORD."""
    need_word(word)
    need_size(size)
    return stays_of(word, size)


def root(word, size):
    """The ROOT of a WORD."""
    need_word(word)
    need_size(size)
    return root_of(word, size)


def extras(word, size):
    """The EXTRAS of a WORD."""
    need_word(word)
    need_size(size)
    return extras_of(word, size)


def doublings_at(word, text, size):
    """How many doublings lead from the TEXT to the WORD for each of the STAYS, or None if none do."""
    if root_of(word, size) != root_of(text, size):
        return None
    more = [many - few for many, few in zip(extras_of(word, size), extras_of(text, size))]
    if any([count < 0 for count in more]):
        return None
    return more


def copies_between(word, text, size):
    """By how many doublings the WORD comes of the TEXT, or None."""
    more = doublings_at(word, text, size)
    if more is None:
        return None
    return sum(more)


def copies_from(word, text, size):
    """By how many doublings the WORD comes of the TEXT, or None."""
    need_word(word)
    need_text(text)
    need_size(size)
    return copies_between(word, text, size)


def starts_of(text, size):
    """For each of the STAYS of a TEXT a place at which a doubling makes it greater."""
    starts = []
    place = 0
    for count in stays_of(text, size):
        starts.append(place)
        place += count + 1
    return starts


def places_between(word, text, size):
    """Places of doublings that lead from the TEXT to the WORD, or None."""
    more = doublings_at(word, text, size)
    if more is None:
        return None
    places = []
    # From the last one on: a doubling moves only what stands behind it.
    for start, count in list(zip(starts_of(text, size), more))[::-1]:
        places.extend([start] * count)
    return tuple(places)


def places_from(word, text, size):
    """A tuple of places of doublings that lead from the TEXT to the WORD, or None."""
    need_word(word)
    need_text(text)
    need_size(size)
    return places_between(word, text, size)


def heard_count(text, size, times):
    """How many WORDS are heard of the TEXT."""
    need_text(text)
    need_size(size)
    need_times(times)
    many = len(stays_of(text, size))
    if many == 0:
        return 1
    return sum([comb(number + many - 1, number) for number in range(times + 1)])


def raised_by_one(counts):
    """All tuples that come of one when one of its numbers is made greater by one."""
    return [counts[:at] + (counts[at] + 1,) + counts[at + 1:] for at in range(len(counts))]


def extras_up_to(counts, times):
    """All tuples that come of one when its numbers are made greater, by times all together at most."""
    found = [counts]
    last = [counts]
    for _ in range(times):
        fresh = {}
        for row in last:
            for raised in raised_by_one(row):
                fresh[raised] = True
        last = list(fresh)
        found.extend(last)
    return found


def heard_words(text, size, times):
    """The ascending tuple of all WORDS that are heard of the TEXT."""
    if heard_count(text, size, times) > MOST_WORDS:
        raise TooGreat(MOST_WORDS)
    rows = extras_up_to(extras_of(text, size), times)
    return tuple(sorted([with_extras(text, size, row) for row in rows]))
