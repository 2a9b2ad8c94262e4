"""Reading: as which text of a book a word is read."""

from alikeagain.books import mixed_pairs, need_asked, shared_word
from alikeagain.errors import BadNumber
from alikeagain.letters import copies_between, need_word
from alikeagain.values import is_whole


def need_number(book, number):
    """The number of a text itself, refused if it is none of the BOOK."""
    if not is_whole(number, 0, len(book) - 1):
        raise BadNumber(number)
    return number


def is_heard(word, text, size, times):
    """Whether a WORD is heard of a TEXT."""
    copies = copies_between(word, text, size)
    return copies is not None and copies <= times


def texts_heard(book, size, times, word):
    """The ascending list of the numbers of the texts of which a WORD is heard."""
    return [number for number, text in enumerate(book) if is_heard(word, text, size, times)]


def read_as(book, size, times, word):
    """The number of the text as which a WORD is read, or None."""
    numbers = texts_heard(book, size, times, word)
    if len(numbers) != 1:
        return None
    return numbers[0]


def heard_of(book, size, times, word):
    """The ascending tuple of the numbers of the texts of which a WORD is heard."""
    need_asked(book, size, times)
    need_word(word)
    return tuple(texts_heard(book, size, times, word))


def read(book, size, times, word):
    """The number of the text as which a WORD is read, or None."""
    need_asked(book, size, times)
    need_word(word)
    return read_as(book, size, times, word)


def mixed_with(book, size, times, number):
    """The numbers of the texts with which a text is mixed up."""
    pairs = mixed_pairs(book, size, times)
    return [one + other - number for one, other in pairs if number in (one, other)]


def is_sure(book, size, times, number):
    """Whether a text is mixed up with no other one."""
    need_asked(book, size, times)
    need_number(book, number)
    return not mixed_with(book, size, times, number)


def unread_word(book, size, times, number):
    """A shortest WORD that is heard of a text and not read; None if there is none."""
    need_asked(book, size, times)
    need_number(book, number)
    words = [shared_word(book[number], book[other], size) for other in mixed_with(book, size, times, number)]
    return min(words, key=len, default=None)


def sure_numbers(book, size, times):
    """The ascending tuple of the numbers of the texts that are mixed up with no other one."""
    need_asked(book, size, times)
    return tuple([number for number in range(len(book)) if not mixed_with(book, size, times, number)])
