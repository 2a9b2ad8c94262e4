"""Texts, words, books and wrong values for their tests."""

from random import Random

from alikeagain.errors import BadBook, BadLetters, BadNumber

from tests.refusals import NO_NUMBERS, NO_TUPLES, at_place, each

NO_STRINGS = tuple(value for value in NO_NUMBERS if not isinstance(value, str)) + (0, 1, 10 ** 999)
NO_LETTERS = NO_STRINGS + ("", "g", "A", "ag", "a b", " ", "a\n", "\n", "abcdefg", "aa-", "a" * 20_000, b"abc", ("a", "b"))
WRONG_TEXTS = each(NO_LETTERS + ("a" * 25, "ab" * 20, "a" * 41), BadLetters, "value")
WRONG_WORDS = each(NO_LETTERS + ("a" * 41, "abc" * 14), BadLetters, "value")
WRONG_SIZES = each(NO_NUMBERS + (0, 5, -1, 10 ** 999), BadNumber, "value")
WRONG_TIMES = each(NO_NUMBERS + (-1, 5, 10 ** 999), BadNumber, "value")

BOOK = ("abab", "ababab", "ab", "cab", "a")
WRONG_BOOKS = (
    at_place(NO_TUPLES + ((), list(BOOK), ["a"], tuple("abcdef") + ("ab", "ac", "ad")), BadBook, None)
    + at_place([(value, "a") for value in NO_LETTERS + ("a" * 25,)], BadBook, 0)
    + at_place([(value, None) for value in NO_LETTERS[:5]], BadBook, 0)
    + at_place([("ab", "b", value, "a") for value in NO_LETTERS + ("a" * 25,)], BadBook, 2)
    + at_place([("a", "a"), ("a", "a", "b"), ("a", "a", None)], BadBook, 1)
    + at_place([("a", "b", "c", "b"), ("a", "b", "c", "a", "a")], BadBook, 3)
)

PARAMS = {
    "text": ("abab", WRONG_TEXTS),
    "word": ("ababab", WRONG_WORDS),
    "size": (2, WRONG_SIZES),
    "times": (2, WRONG_TIMES),
    "book": (BOOK, WRONG_BOOKS),
    "signs": (3, each(NO_NUMBERS + (0, 7, -1, 10 ** 999), BadNumber, "value")),
    "length": (5, each(NO_NUMBERS + (0, 25, -1, 10 ** 999), BadNumber, "value")),
    "many": (4, each(NO_NUMBERS + (0, 9, -1, 10 ** 999), BadNumber, "value")),
    "number": (1, each(NO_NUMBERS + (-1, 5, 10 ** 999), BadNumber, "value")),
}


def params(*names):
    """What Refusals.all_refusals asks for, for these arguments."""
    return [(name, *PARAMS[name]) for name in names]


def some_text(random, most, signs):
    return "".join(random.choice("abcdef"[:signs]) for _ in range(random.randint(1, most)))


def some_texts(seed, many, most=8):
    random = Random(seed)
    return [some_text(random, most, random.randint(1, 4)) for _ in range(many)]


def some_book(random, size):
    """A book some texts of which come of others by doublings."""
    found = []
    for _ in range(random.randint(1, 8)):
        text = random.choice(found) if found and random.randrange(3) else some_text(random, 5, random.randint(1, 3))
        for _ in range(random.randrange(4)):
            place = random.randrange(len(text))
            if place + size <= len(text) and len(text) < 10:
                text = text[:place + size] + text[place:]
        if text not in found:
            found.append(text)
    return tuple(found)
