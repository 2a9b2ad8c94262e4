"""Sheets: lines that tell a relay, and verdicts on it."""

from alikeagain.books import MOST_TEXTS, mixed_pairs, need_book
from alikeagain.errors import BadBook
from alikeagain.kinds import coming_of
from alikeagain.letters import is_text, need_size, need_times
from alikeagain.lines import NOBODY, line_at, lines_of, need_no_line, need_no_word, need_that, read_kind_at
from alikeagain.lines import read_net_lines, read_numbers, read_others, read_ring_at, read_shape, read_wish_at
from alikeagain.lines import read_word, word_at
from alikeagain.nets import is_station, need_net
from alikeagain.plans import is_moment
from alikeagain.reading import read_as
from alikeagain.relays import relay_hears
from alikeagain.settling import delay_of, does_join, least_settling
from alikeagain.terms import kind_of, ring_of
from alikeagain.wishes import holds_from, need_wished

VERDICT_SHAPES = (
    ("joins", ()), ("clear", ()), ("delay", ("number",)), ("apart", ()), ("settles", ("number",)), ("never", ()),
    ("hears", ("number", "number", "number")), ("nothing", ("number", "number")), ("heard", ("signs", "number")),
    ("unread", ("signs",)),
)


def read_book_line(line):
    """The BOOK of a line, by its form alone."""
    at = read_word(line, 0, "book")
    texts = []
    # One text has to be there; what follows are texts till the line ends.
    while not texts or at < len(line[1]):
        need_that(len(texts) < MOST_TEXTS and is_text(word_at(line, at)), line, at)
        texts.append(word_at(line, at))
        at += 1
    return tuple(texts)


def read_copies_line(line):
    """SIZE and TIMES of a line, by their form alone."""
    at = read_word(line, 0, "copies")
    numbers = read_numbers(line, at, 2)
    need_no_word(line, at + 2)
    return numbers


def read_ahead_line(line):
    """The RING TERM for AHEAD of a line, by its form alone, or None if there is none."""
    at = read_word(line, 0, "ahead")
    if word_at(line, at) != NOBODY:
        return read_ring_at(line, at)
    need_no_word(line, at + 1)
    return None


def read_head(lines):
    """The parts of a sheet ahead of its verdicts, by their form alone, and the number of the line behind them."""
    net, number = read_net_lines(lines)
    line = line_at(lines, number)
    kind_term = read_kind_at(line, read_word(line, 0, "kind"))
    book = read_book_line(line_at(lines, number + 1))
    size, times = read_copies_line(line_at(lines, number + 2))
    ahead_term = read_ahead_line(line_at(lines, number + 3))
    line = line_at(lines, number + 4)
    ring_term = read_ring_at(line, read_word(line, 0, "ring"))
    return (net, kind_term, book, size, times, ahead_term, ring_term), number + 5


def read_verdict(line):
    """The verdict of a line, by its form alone."""
    if line[1][0] == "wish":
        wish, at = read_wish_at(line, 1)
        verdict = ("wish", wish)
    else:
        found, at = read_others(line, 0, read_shape(line, 0, VERDICT_SHAPES))
        verdict = tuple(found)
    need_no_word(line, at)
    return verdict


def need_head(head):
    """The relay of the parts of a sheet; the first part that is wrong is refused."""
    net, kind_term, book, size, times, ahead_term, ring_term = head
    need_net(net)
    kind = kind_of(kind_term)
    need_book(book)
    if len(book) != len(coming_of(kind)):
        raise BadBook(None)
    need_size(size)
    need_times(times)
    ahead = () if ahead_term is None else ring_of(net, ahead_term)
    return net, kind, book, size, times, (ahead, ring_of(net, ring_term))


def sheet_of(text):
    """The relay of a sheet, and the list of its verdicts."""
    lines = lines_of(text)
    head, number = read_head(lines)
    verdicts = [read_verdict(line) for line in lines[number:]]
    relay = need_head(head)
    for verdict in verdicts:
        if verdict[0] == "wish":
            need_wished(relay, verdict[1])
    return relay, verdicts


def bare_relay_of(text):
    """The relay of a sheet that has no verdicts; a line more is one too many."""
    lines = lines_of(text)
    head, number = read_head(lines)
    need_no_line(lines, number)
    return need_head(head)


def hears_so(relay, moment, station, other):
    """Whether a station hears another one at a moment, nothing if the other one is None."""
    if not is_moment(relay[5], moment) or not is_station(relay[0], station):
        return False
    return relay_hears(relay, ())[moment][station] == other


def is_right_part(relay, verdict):
    """Whether a verdict on the kind, the book or what is read is so."""
    word = verdict[0]
    book, size, times = relay[2:5]
    if word == "joins":
        return does_join(relay)
    if word == "clear":
        return not mixed_pairs(book, size, times)
    number = read_as(book, size, times, verdict[1])
    return number is None if word == "unread" else number == verdict[2]


def is_right(relay, verdict):
    """Whether a verdict on a relay is so."""
    word = verdict[0]
    if word == "delay":
        return delay_of(relay, ()) == verdict[1]
    if word == "apart":
        return delay_of(relay, ()) is None
    if word == "settles":
        return least_settling(relay, ()) == verdict[1]
    if word == "never":
        return least_settling(relay, ()) is None
    if word == "hears":
        return hears_so(relay, verdict[1], verdict[2], verdict[3])
    if word == "nothing":
        return hears_so(relay, verdict[1], verdict[2], None)
    if word == "wish":
        return holds_from(relay, (), (), None, verdict[1])
    return is_right_part(relay, verdict)


def relay_of(text):
    """The relay of a sheet."""
    return sheet_of(text)[0]


def judged(text):
    """A tuple with True or False for each verdict of a sheet."""
    relay, verdicts = sheet_of(text)
    return tuple([is_right(relay, verdict) for verdict in verdicts])
