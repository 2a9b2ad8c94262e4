"""Sheets and wrong texts for the tests of sheets and desks."""

from random import Random

from alikeagain.errors import BadBook, BadLines, BadNet, BadNumber, BadTerm, BadWish

from tests import nets_samples, slow, slow_terms
from tests.letter_samples import NO_STRINGS
from tests.relay_samples import CLEAR, MIXED, POOL
from tests.slow_lines import text_of, text_of_net
from tests.term_samples import good_kind_term, good_ring_term
from tests.wish_samples import random_wish

# All have news of all behind three rounds; "ab" and "abab" are mixed up by one doubling, by none not.
HEAD = ("net 2 1\n0 2 1 3", "kind pair top 2 top 2", "book ab cd ef abab", "copies 2 1", "ahead none",
        "ring then all 01.10 all 00.11")
SHEET = "\n".join(HEAD)
# Two stations hear each other in each round.
DUO = "net 1 0\nkind top 3\nbook ab cd ef\ncopies 2 2\nahead round 1 none\nring all 1"
VERDICTS = (
    "joins", "clear", "delay 3", "apart", "settles 3", "never", "hears 0 1 0", "nothing 1 0", "heard ab 0", "unread abab",
    "wish within 3 alike",
)
FULL = "\n".join(HEAD + VERDICTS)


def sheet(head, verdicts=()):
    return "\n".join([*head, *verdicts])


def head_of(relay_parts):
    """The lines of a net, a kind term, a book, SIZE, TIMES, a ring term or None, and a ring term."""
    net, kind_term, book, size, times, ahead, ring = relay_parts
    return (text_of_net(net), f"kind {text_of(kind_term)}", f"book {' '.join(book)}", f"copies {size} {times}",
            f"ahead {'none' if ahead is None else text_of(ahead)}", f"ring {text_of(ring)}")


def relay_of_parts(parts):
    """The relay of these parts, by other means than the package's."""
    net, kind_term, book, size, times, ahead, ring = parts
    rounds = () if ahead is None else slow_terms.ring_of(net, ahead)
    return net, slow_terms.kind_of(kind_term), book, size, times, (rounds, slow_terms.ring_of(net, ring))


def random_parts(random, bits=(1, 1, 2)):
    """The parts of a sheet."""
    net = nets_samples.random_net(random, random.choice(bits))
    kind_term = good_kind_term(random)
    many = len(slow.close(slow_terms.kind_of(kind_term)))
    texts = random.choice((CLEAR, MIXED, random.sample(POOL, min(many, len(POOL)))))
    ahead = random.choice((None, None, good_ring_term(random, net)))
    return net, kind_term, tuple(texts[:many]), random.choice((1, 2, 3)), random.choice((0, 1, 2)), ahead, good_ring_term(random, net)


def some_word(random, book):
    """A text of a book, or what doublings make of it, or any word."""
    text = random.choice((*book, random.choice(POOL)))
    for _ in range(random.choice((0, 0, 1, 2))):
        behind = slow.doublings(text, random.choice((1, 2)))
        text = random.choice(behind)[1] if behind and len(text) < 36 else text
    return text


def random_verdict(random, relay):
    """A verdict on a relay, so or not, perhaps on a moment or a station that is not there."""
    word = random.choice(("joins", "clear", "delay", "apart", "settles", "never", "hears", "nothing", "heard", "unread", "wish"))
    some = [str(random.choice((0, 0, 1, 1, 2, 3, 4, 7, 11, 999))) for _ in range(3)]
    if word in ("delay", "settles"):
        return f"{word} {some[0]}"
    if word == "hears":
        return f"{word} {' '.join(some)}"
    if word == "nothing":
        return f"{word} {some[0]} {some[1]}"
    if word == "heard":
        return f"{word} {some_word(random, relay[2])} {some[0]}"
    if word == "unread":
        return f"{word} {some_word(random, relay[2])}"
    return f"{word} {text_of(random_wish(random, relay))}" if word == "wish" else word


def some_sheets(seed, many, bits=(1, 1, 2)):
    """Triples of the parts of a sheet, their relay, and verdicts."""
    random = Random(seed)
    found = []
    for _ in range(many):
        parts = random_parts(random, bits)
        relay = relay_of_parts(parts)
        found.append((parts, relay, [random_verdict(random, relay) for _ in range(random.choice((0, 1, 4, 8)))]))
    return found


def changed(at, line):
    """The head with another line, or with none if the line is None."""
    return "\n".join([*HEAD[:at], *([] if line is None else [line]), *HEAD[at + 1:]])


def no_lines(*rows):
    return [(text, BadLines, {"line": line, "word": word}) for text, line, word in rows]


# Of the head the line 0 stands for two.
WRONG_HEADS = [(value, BadLines, {"line": None, "word": None}) for value in NO_STRINGS] + no_lines(
    ("", 0, 0), ("\n", 0, 0), (" " + SHEET, 0, 0), ("net", 0, 1), ("net 2 1", 1, 0), (HEAD[0], 2, 0), ("\n".join(HEAD[:2]), 3, 0),
    ("\n".join(HEAD[:3]), 4, 0), ("\n".join(HEAD[:4]), 5, 0), ("\n".join(HEAD[:5]), 6, 0), (HEAD[0] + "\n", 2, 0),
    (changed(0, "net 2 2\n0 2 1 3"), 2, 0), (changed(0, "net 2 0\n0 2 1 3"), 1, 0), (changed(0, "net 2 1\n0 2 1"), 1, 3),
    (changed(1, None), 2, 0), (changed(1, "kind"), 2, 1), (changed(1, "kind top"), 2, 2), (changed(1, "top 2"), 2, 0),
    (changed(1, "kind top 2 2"), 2, 3), (changed(1, "kinds top 2"), 2, 0), (changed(1, "kind none"), 2, 1),
    (changed(1, "kind " + "without 0 " * 8 + "top 2"), 2, 17), (changed(1, "kind all 00.00"), 2, 1),
    (changed(2, None), 3, 0), (changed(2, "book"), 3, 1), (changed(2, "book "), 3, 1), (changed(2, "book ab  cd"), 3, 2),
    (changed(2, "book ab cd "), 3, 3), (changed(2, "book ag"), 3, 1), (changed(2, "book " + "a" * 25), 3, 1),
    (changed(2, "book a b c d e f aa bb cc"), 3, 9), (changed(2, "book a b c d e f aa bb 0"), 3, 9),
    (changed(2, "ab cd ef abab"), 3, 0), (changed(3, None), 4, 0), (changed(3, "copies"), 4, 1), (changed(3, "copies 2"), 4, 2),
    (changed(3, "copies 2 1 0"), 4, 3), (changed(3, "copies 02 1"), 4, 1), (changed(3, "copies 2 1000"), 4, 2),
    (changed(3, "copies 2 -1"), 4, 2), (changed(3, "copies  2 1"), 4, 1), (changed(4, None), 5, 0), (changed(4, "ahead"), 5, 1),
    (changed(4, "ahead none none"), 5, 2), (changed(4, "ahead all"), 5, 2), (changed(4, "ahead "), 5, 1),
    (changed(4, "ahead all 00.00 all 00.00"), 5, 3), (changed(4, "ahead top 2"), 5, 1), (changed(4, "none"), 5, 0),
    (changed(4, "ahead none "), 5, 2), (changed(5, None), 6, 0), (changed(5, "ring"), 6, 1), (changed(5, "ring none"), 6, 1),
    (changed(5, "ring all 0.00."), 6, 2), (changed(5, "ring " + "turn 0 " * 12 + "all 00.00"), 6, 25),
    (changed(5, "all 00.00"), 6, 0), (changed(5, "ring all 00.00 0"), 6, 3), ("\n".join((HEAD[0], *HEAD[:5:-1])), 2, 0),
    # All lines are read ahead of what they tell.
    (changed(0, "net 2 1\n0 0 0 0") + " 0", 6, 6), (changed(3, "copies 9 9 9"), 4, 3),
) + [
    (changed(0, "net 2 1\n0 2 1 4"), BadNet, {"place": (1, 0)}), (changed(0, "net 2 1\n0 0 0 999"), BadNet, {"place": (1, 0)}),
    (changed(0, "net 2 2\n3 2 1 0\n0 2 1 1"), BadNet, {"place": (1, 1)}),
    (changed(1, "kind top 9"), BadTerm, {"path": ()}), (changed(1, "kind pair top 2 top 1"), BadTerm, {"path": (2,)}),
    (changed(1, "kind without 1 top 2"), BadTerm, {"path": ()}), (changed(1, "kind reads 2 0 10 top 2"), BadTerm, {"path": ()}),
    (changed(2, "book ab cd ef ab"), BadBook, {"place": 3}), (changed(2, "book ab ab"), BadBook, {"place": 1}),
    (changed(2, "book ab cd ef"), BadBook, {"place": None}), (changed(2, "book ab cd ef fe dc"), BadBook, {"place": None}),
    (changed(3, "copies 0 1"), BadNumber, {"value": 0}), (changed(3, "copies 5 999"), BadNumber, {"value": 5}),
    (changed(3, "copies 2 5"), BadNumber, {"value": 5}), (changed(4, "ahead all 00"), BadTerm, {"path": ()}),
    (changed(4, "ahead then all 00.00 times 7 all 00.00"), BadTerm, {"path": (2,)}),
    (changed(5, "ring round 00.00 4"), BadTerm, {"path": ()}), (changed(5, "ring round 00.00 10"), BadTerm, {"path": ()}),
    (changed(5, "ring both all 00.00 times 7 all 00.00"), BadTerm, {"path": (2,)}),
    (changed(5, "ring times 4 times 2 all 00.00"), BadTerm, {"path": ()}),
    # In the order of the lines.
    ("net 2 1\n0 0 0 0\nkind top 9\nbook ab ab\ncopies 0 9\nahead all 00\nring but 7 all 00.00", BadNet, {"place": (1, 0)}),
    ("net 2 0\nkind top 9\nbook ab ab\ncopies 0 9\nahead all 00\nring but 7 all 00", BadTerm, {"path": ()}),
    ("net 2 0\nkind pair top 3 top 9\nbook ab ab\ncopies 0 9\nahead all 00\nring but 7 all 00", BadTerm, {"path": (2,)}),
    ("net 2 0\nkind top 2\nbook ab ab\ncopies 0 9\nahead all 0\nring but 7 all 00", BadBook, {"place": 1}),
    ("net 2 0\nkind top 2\nbook ab\ncopies 0 9\nahead all 0\nring but 7 all 00", BadBook, {"place": None}),
    ("net 2 0\nkind top 2\nbook ab cd\ncopies 0 9\nahead all 0\nring but 7 all 00", BadNumber, {"value": 0}),
    ("net 2 0\nkind top 2\nbook ab cd\ncopies 1 9\nahead all 0\nring but 7 all 00", BadNumber, {"value": 9}),
    ("net 2 0\nkind top 2\nbook ab cd\ncopies 1 1\nahead times 2 all 0\nring but 7 all 00", BadTerm, {"path": (1,)}),
    ("net 2 0\nkind top 2\nbook ab cd\ncopies 1 1\nahead all 00\nring but 7 all 00", BadTerm, {"path": ()}),
]
WRONG_VERDICTS = no_lines(
    (SHEET + "\n", 7, 0), (SHEET + "\n\n", 7, 0), (SHEET + "\njoins\n", 8, 0), (SHEET + "\nJoins", 7, 0), (SHEET + "\njoins clear", 7, 1),
    (SHEET + "\njoins ", 7, 1), (SHEET + "\ndelay", 7, 1), (SHEET + "\ndelay 2 2", 7, 2), (SHEET + "\ndelay 02", 7, 1),
    (SHEET + "\ndelay 1000", 7, 1), (SHEET + "\nsettles x", 7, 1), (SHEET + "\nnever 0", 7, 1), (SHEET + "\napart none", 7, 1),
    (SHEET + "\nhears 0 1", 7, 3), (SHEET + "\nhears 0 1 none", 7, 3), (SHEET + "\nhears 0 1 2 3", 7, 4), (SHEET + "\nnothing 0", 7, 2),
    (SHEET + "\nnothing 0 0 0", 7, 3), (SHEET + "\nheard ab", 7, 2), (SHEET + "\nheard 0 ab", 7, 1), (SHEET + "\nheard", 7, 1),
    (SHEET + "\nheard " + "a" * 41 + " 0", 7, 1), (SHEET + "\nheard ab 0 0", 7, 3), (SHEET + "\nunread", 7, 1), (SHEET + "\nunread ", 7, 1),
    (SHEET + "\nunread ag", 7, 1), (SHEET + "\nunread " + "a" * 41, 7, 1), (SHEET + "\nunread ab cd", 7, 2), (SHEET + "\nwish", 7, 1),
    (SHEET + "\nwish alike", 7, 1), (SHEET + "\nwish always", 7, 2), (SHEET + "\nwish always alike alike", 7, 3),
    (SHEET + "\nwish wish always alike", 7, 1), (SHEET + "\nwish always " + "not " * 12 + "alike", 7, 14), (SHEET + "\nalways alike", 7, 0),
    (SHEET + "\njoins\nclear\nclears", 9, 0), (SHEET + "\n joins", 7, 0), (changed(3, "copies 9 9") + "\njoin", 7, 0),
    (SHEET + "\nwish within 61 alike\njoins now", 8, 1), (SHEET + "\nring all 00.00", 7, 0),
) + [
    (SHEET + "\nwish within 61 alike", BadWish, {"path": ()}), (SHEET + "\nwish always moment 2", BadWish, {"path": (1,)}),
    (SHEET + "\nwish until alike not same 0 4", BadWish, {"path": (2, 1)}),
    (SHEET + "\nwish always alike\nclear\nwish last has 0 4\nwish within 61 alike", BadWish, {"path": (1,)}),
    (SHEET + "\nwish last " + "not " * 5 + "alike", BadWish, {"path": (1,) * 6}),
    (changed(3, "copies 2 5") + "\nwish within 61 alike", BadNumber, {"value": 5}),
    (changed(5, "ring all 00") + "\nwish within 61 alike", BadTerm, {"path": ()}),
]
# With a verdict a desk has a line too many.
WITH_VERDICTS = no_lines((FULL, 7, 0), (SHEET + "\n", 7, 0), (SHEET + "\njoins", 7, 0), (SHEET + "\nwish within 61 alike", 7, 0),
                         (changed(3, "copies 9 9") + "\njoins", 7, 0), (SHEET + "\n" + SHEET, 7, 0))
