"""Books of texts: which texts can become one, papers on it, and books that are safe."""

from alikeagain.errors import BadBook, BadNumber, BadPaper
from alikeagain.letters import doubled_at, extras_of, is_text, need_size, need_times, places_between
from alikeagain.letters import root_of, with_extras, SIGNS, LONGEST_TEXT
from alikeagain.values import is_headed, is_tuple, is_whole, power

MOST_TEXTS = 8


def need_book(book):
    """The BOOK itself, refused if it is none."""
    if not is_tuple(book, 1, MOST_TEXTS):
        raise BadBook(None)
    for number, text in enumerate(book):
        if not is_text(text) or text in book[:number]:
            raise BadBook(number)
    return book


def lacking(counts, others):
    """How much some EXTRAS are, all together, below those of another text."""
    return sum([max(other - count, 0) for count, other in zip(counts, others)])


def rows_of_book(book, size):
    """For each text of a BOOK its ROOT and its EXTRAS."""
    return tuple([(root_of(text, size), extras_of(text, size)) for text in book])


def mixing_times(row, other):
    """The least TIMES by which two unlike texts with these ROOTS and EXTRAS are mixed up, or None."""
    if row[0] != other[0]:
        return None
    return max(lacking(row[1], other[1]), lacking(other[1], row[1]))


def pairs_of(book):
    """The ascending list of the pairs of numbers of texts, the lesser one first."""
    return [(one, other) for other in range(len(book)) for one in range(other)]


def times_by_pair(book, size):
    """The pairs of texts that are mixed up by some TIMES, ascending, each with the least such TIMES."""
    rows = rows_of_book(book, size)
    found = []
    for one, other in sorted(pairs_of(book)):
        least = mixing_times(rows[one], rows[other])
        if least is not None:
            found.append(((one, other), least))
    return found


def mixed_pairs(book, size, times):
    """The ascending tuple of the pairs of numbers of texts that are mixed up."""
    return tuple([pair for pair, least in times_by_pair(book, size) if least <= times])


def need_asked(book, size, times):
    """Nothing; the first of these arguments that is wrong is refused."""
    need_book(book)
    need_size(size)
    need_times(times)


def mixed_up(book, size, times):
    """The ascending tuple of the pairs of numbers of texts that are mixed up."""
    need_asked(book, size, times)
    return mixed_pairs(book, size, times)


def is_clear(book, size, times):
    """Whether no two texts of a BOOK are mixed up."""
    need_asked(book, size, times)
    return not mixed_pairs(book, size, times)


def clear_times(book, size):
    """The greatest number of doublings by which a BOOK is clear; None if it is by each."""
    need_book(book)
    need_size(size)
    found = [least for _, least in times_by_pair(book, size)]
    if not found:
        return None
    return min(found) - 1


def is_safe(book, size):
    """Whether no two texts of a BOOK have the same ROOT."""
    need_book(book)
    need_size(size)
    return not times_by_pair(book, size)


def shared_word(text, other, size):
    """The shortest string that comes of both texts, which have the same ROOT."""
    counts = [max(one, two) for one, two in zip(extras_of(text, size), extras_of(other, size))]
    return with_extras(text, size, counts)


def book_paper(book, size, times):
    """A PAPER on whether a BOOK is clear."""
    need_asked(book, size, times)
    pairs = mixed_pairs(book, size, times)
    if not pairs:
        return "clear", rows_of_book(book, size)
    one, other = pairs[0]
    word = shared_word(book[one], book[other], size)
    return "mixed", one, other, places_between(word, book[one], size), places_between(word, book[other], size)


def is_row(value):
    """Whether a value is a pair of a string and a tuple of integers."""
    if not is_tuple(value, 2, 2) or not isinstance(value[0], str) or not isinstance(value[1], tuple):
        return False
    return all([is_whole(count, 0, LONGEST_TEXT) for count in value[1]])


def shows_clear(book, size, times, rows):
    """Whether rows are the ROOTS and EXTRAS of a BOOK, and by these it is clear."""
    if not is_tuple(rows, len(book), len(book)) or not all([is_row(row) for row in rows]):
        return False
    return rows == rows_of_book(book, size) and not mixed_pairs(book, size, times)


def word_by(text, size, times, places):
    """What doublings at these places make of a text; None if they are no places of at most TIMES of them."""
    if not is_tuple(places, 0, times):
        return None
    word = text
    for place in places:
        if not is_whole(place, 0, len(word) - size):
            return None
        word = doubled_at(word, size, place)
    return word


def shows_mixed(book, size, times, paper):
    """Whether a paper leads from two texts of a BOOK to the same string."""
    _, one, other, places, others = paper
    if not is_whole(other, 1, len(book) - 1) or not is_whole(one, 0, other - 1):
        return False
    word = word_by(book[one], size, times, places)
    return word is not None and word == word_by(book[other], size, times, others)


def check_book(book, size, times, paper):
    """The first item of a PAPER that holds."""
    need_asked(book, size, times)
    if is_headed(paper, "clear", 2):
        if not shows_clear(book, size, times, paper[1]):
            raise BadPaper("clear")
        return "clear"
    if is_headed(paper, "mixed", 5):
        if not shows_mixed(book, size, times, paper):
            raise BadPaper("mixed")
        return "mixed"
    raise BadPaper("form")


def need_signs(signs):
    """The number of SIGNS itself, refused if it is none."""
    if not is_whole(signs, 1, len(SIGNS)):
        raise BadNumber(signs)
    return signs


def need_length(length):
    """The length of texts itself, refused if it is none."""
    if not is_whole(length, 1, LONGEST_TEXT):
        raise BadNumber(length)
    return length


def need_many(many):
    """How many texts, refused if a BOOK cannot have so many."""
    if not is_whole(many, 1, MOST_TEXTS):
        raise BadNumber(many)
    return many


def roots_of_length(signs, length, size):
    """How many strings of so many signs and of this length are their own ROOT."""
    if length < size:
        return power(signs, length)
    # By how many signs stay at the end: so many rows of things with no SIZE that stay side by side.
    by_stays = [1] + [0] * (size - 1)
    for _ in range(length - size):
        by_stays = [sum(by_stays) * (signs - 1)] + by_stays[:-1]
    return power(signs, size) * sum(by_stays)


def roots_up_to(signs, length, size):
    """How many ROOTS the texts of so many signs and of this length have."""
    if length < size:
        return power(signs, length)
    return sum([roots_of_length(signs, less, size) for less in range(length, size - 1, -size)])


def root_count(signs, length, size):
    """How many strings of so many signs and of this length are their own ROOT."""
    need_signs(signs)
    need_length(length)
    need_size(size)
    return roots_of_length(signs, length, size)


def safe_most(signs, length, size):
    """How many texts a greatest safe BOOK of so many signs and of this length has."""
    need_signs(signs)
    need_length(length)
    need_size(size)
    return roots_up_to(signs, length, size)


def safe_length(many, signs, size):
    """The least length of which there are so many texts in a safe BOOK, or None."""
    need_many(many)
    need_signs(signs)
    need_size(size)
    for length in range(1, LONGEST_TEXT + 1):
        if roots_up_to(signs, length, size) >= many:
            return length
    return None


def texts_of_length(signs, length):
    """All texts of so many signs and of this length."""
    found = [""]
    for _ in range(length):
        found = [text + sign for text in found for sign in SIGNS[:signs]]
    return found


def safe_book(many, signs, size):
    """A safe BOOK of so many texts of the least length of which there is one, or None."""
    length = safe_length(many, signs, size)
    if length is None:
        return None
    by_root = {}
    for text in texts_of_length(signs, length):
        by_root.setdefault(root_of(text, size), text)
    return tuple(list(by_root.values())[:many])
