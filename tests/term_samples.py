"""Terms and wrong values for the tests of terms, lines and sheets."""

from random import Random

from alikeagain.errors import BadTerm

from tests import nets_samples, slow, slow_terms
from tests.nets_samples import NET, SETTINGS, WRONG_SENDERS, WRONG_SETTINGS
from tests.plan_samples import CROSS, STRAIGHT, random_settings
from tests.refusals import NO_NUMBERS, NO_TUPLES

TWO = ("top", 2)
PAIR = ("pair", TWO, TWO)
EIGHT = ("pair", ("flags", 2), ("reads", TWO, (7, 7)))
KIND_TERMS = (
    TWO, ("top", 8), ("flags", 1), ("flags", 2), ("flags", 3), PAIR, EIGHT, ("pair", ("top", 4), TWO),
    ("pair", PAIR, TWO), ("pair", PAIR, ("flags", 1)), ("without", PAIR, 0), ("without", ("flags", 3), 2),
    ("without", ("without", ("flags", 3), 2), 0), ("reads", PAIR, (0, 9, 0, 9)), ("reads", ("without", ("flags", 2), 1), (1, 2, 3, 4)),
    ("pair", ("without", ("flags", 2), 1), ("reads", TWO, (5, 5))), ("pair", ("reads", ("flags", 1), (9, 0)), PAIR),
)
WRONG_KIND_PARTS = NO_TUPLES + (
    (), ("top",), ("top", 2, 0), ("flags",), ("flags", 1, 1), ("pair",), ("pair", TWO), ("pair", TWO, TWO, TWO), ("Top", 2),
    ("without", PAIR), ("without", PAIR, 0, 0), ("reads", TWO), ("reads", TWO, (0, 0), ()), ["top", 2], (b"top", 2), (None, 2),
    ("top", 1), ("top", 9), ("top", -1), ("flags", 0), ("flags", 4), ("top", 10 ** 999), ("without", PAIR, 4),
    ("without", None, -1), ("reads", None, ()), ("reads", TWO, (0,) * 9), ("reads", TWO, [0, 0]), ("reads", TWO, (0, 10)),
    ("reads", TWO, (0, -1)), ("all", STRAIGHT), ("", 2), ((), 2),
) + tuple(("top", value) for value in NO_NUMBERS) + tuple(("flags", value) for value in NO_NUMBERS) \
    + tuple(("without", PAIR, value) for value in NO_NUMBERS) + tuple(("reads", TWO, (0, value)) for value in NO_NUMBERS) \
    + tuple(("reads", TWO, value) for value in NO_TUPLES)
# These are as told by themselves, but have no KIND; a KIND with more than four updates has more than eight states, too.
NO_KINDS = (("without", TWO, 0), ("without", ("flags", 2), 2), ("without", ("flags", 3), 3), ("reads", TWO, (0,)),
            ("reads", TWO, (0, 0, 0)), ("reads", ("top", 8), (0,) * 7), ("pair", ("top", 3), ("top", 3)),
            ("pair", ("flags", 3), TWO), ("pair", ("flags", 2), ("top", 3)))
DEEP_NO_KINDS = (("without", ("without", ("flags", 2), 0), 0), ("pair", PAIR, PAIR), ("pair", PAIR, ("top", 3)))


def wrong_kind_terms():
    """Wrong kind terms, each with the path that is told."""
    found = [(value, ()) for value in WRONG_KIND_PARTS + NO_KINDS + DEEP_NO_KINDS]
    found += [(("pair", value, None), (1,)) for value in WRONG_KIND_PARTS]
    found += [(("pair", TWO, value), (2,)) for value in WRONG_KIND_PARTS[::2] + NO_KINDS]
    found += [(("without", value, 0), (1,)) for value in WRONG_KIND_PARTS[::2] + NO_KINDS]
    found += [(("reads", ("pair", TWO, value), (0, 0)), (1, 2)) for value in WRONG_KIND_PARTS[::2]]
    # Too deep, whatever it is; but not if something ahead of it is none.
    deep = ("reads", ("reads", TWO, (0, 0)), (0, 0))
    found += [(("reads", deep, (0, 0)), ()), (("pair", PAIR, None), (2,)), (("pair", None, ("reads", deep, (0, 0))), (1,))]
    found += [(("reads", ("reads", ("reads", None, (0, 0)), (0, 0)), (0, 0)), ()), (("pair", ("pair", PAIR, None), None), ())]
    # What is none by itself comes ahead of what has no kind; of these the inner ones come first.
    found += [(("pair", ("pair", ("top", 3), ("top", 3)), ("top", 9)), (2,)), (("without", ("without", TWO, 0), 3), (1,))]
    found += [(("pair", ("without", TWO, 0), ("without", TWO, 0)), (1,)), (("pair", PAIR, ("without", TWO, 0)), (2,))]
    found += [(("pair", ("top", 4), ("without", TWO, 0)), (2,)), (("pair", ("pair", ("top", 3), ("top", 3)), TWO), (1,))]
    return found


ONE = ("all", STRAIGHT)
ROUND_TERM = ("round", CROSS, (0, 2))
THREE = ("then", ("then", ONE, ROUND_TERM), ONE)
# Twelve words, each within at most four others.
TWELVE = ("then", ("then", ("then", ("but", ONE, 0), ONE), ("turn", ("but", ONE, 1), 5)), ("both", ONE, ONE))
RING_TERMS = (
    ONE, ROUND_TERM, ("round", SETTINGS, ()), ("round", SETTINGS, (0, 1, 2, 3)), ("then", ONE, ROUND_TERM), ("times", ONE, 6),
    ("times", ONE, 1), ("times", THREE, 2), ("turn", THREE, 0), ("turn", THREE, 1), ("turn", THREE, 5), ("but", THREE, 0),
    ("but", ROUND_TERM, 1), ("but", ("but", ("but", ("but", ONE, 3), 2), 1), 0), ("both", ROUND_TERM, ("round", CROSS, (1, 2))),
    ("both", THREE, ("but", THREE, 0)), ("both", ("times", ONE, 3), ("then", ONE, ("times", ONE, 2))), TWELVE,
)
WRONG_RING_PARTS = NO_TUPLES + (
    (), ("round",), ("round", STRAIGHT), ("round", STRAIGHT, (), ()), ("all",), ("all", STRAIGHT, ()), ("then", ONE), ("then",),
    ("then", ONE, ONE, ONE), ("times", ONE), ("times", ONE, 2, 2), ("turn", ONE), ("but", ONE), ("both", ONE), ["all", STRAIGHT],
    ("All", STRAIGHT), (None, STRAIGHT), ("times", ONE, 0), ("times", None, 7), ("times", ONE, -1), ("turn", ONE, -1),
    ("turn", None, 6), ("but", ONE, 4), ("but", ONE, -1), ("times", ONE, 10 ** 999), ("top", 2), ("", ONE, 1), ((), 1),
) + tuple(("all", value) for value in WRONG_SETTINGS) + tuple(("round", value, None) for value in WRONG_SETTINGS[::5]) \
    + tuple(("round", SETTINGS, value) for value in WRONG_SENDERS) + tuple(("times", ONE, value) for value in NO_NUMBERS) \
    + tuple(("turn", ONE, value) for value in NO_NUMBERS) + tuple(("but", ONE, value) for value in NO_NUMBERS)
# These are as told by themselves, but have no RING.
NO_RINGS = (("times", ("times", ONE, 4), 2), ("then", ("times", ONE, 6), ONE), ("both", ("times", ONE, 2), ONE),
            ("both", ONE, ROUND_TERM))
DEEP_NO_RINGS = (("times", THREE, 3), ("both", ONE, THREE), ("both", THREE, ("turn", THREE, 1)))


def wrong_ring_terms():
    """Wrong ring terms, each with the path that is told."""
    found = [(value, ()) for value in WRONG_RING_PARTS + NO_RINGS + DEEP_NO_RINGS]
    found += [(("then", value, None), (1,)) for value in WRONG_RING_PARTS[::3]]
    found += [(("then", ONE, value), (2,)) for value in WRONG_RING_PARTS[::3] + NO_RINGS]
    found += [(("but", ("times", value, 1), 3), (1, 1)) for value in WRONG_RING_PARTS[::3] + NO_RINGS]
    found += [(("both", ("turn", ONE, 1), ("then", value, None)), (2, 1)) for value in WRONG_RING_PARTS[::5]]
    deep = ("turn", ("turn", ("turn", ("turn", ONE, 0), 0), 0), 0)
    found += [(("turn", deep, 0), ()), (("turn", ("turn", ("turn", ("turn", ("turn", None, 0), 0), 0), 0), 0), ())]
    found += [(("then", deep[1], None), (2,)), (("then", None, ("turn", deep, 0)), (1,)), (("then", ("turn", deep, 0), None), ())]
    # A thirteenth word, whatever it is.
    more = ("then", ("then", ("then", ("but", ONE, 0), ONE), ("turn", ("but", ONE, 1), 5)), ("both", ONE, ("turn", None, 0)))
    found += [(more, ()), (("then", TWELVE, None), ())]
    found += [(("then", ("times", THREE, 3), ("times", ONE, 7)), (2,)), (("both", NO_RINGS[0], NO_RINGS[3]), (1,))]
    found += [(("times", NO_RINGS[3], 6), (1,)), (("then", ("times", ONE, 5), NO_RINGS[3]), (2,))]
    return found


WRONG_KIND_TERMS = [(value, BadTerm, {"path": path}) for value, path in wrong_kind_terms()]
WRONG_RING_TERMS = [(value, BadTerm, {"path": path}) for value, path in wrong_ring_terms()]
PARAMS = {
    "net": (NET, nets_samples.WRONG_NETS[::3]),
    "kind_term": (EIGHT, WRONG_KIND_TERMS),
    "ring_term": (TWELVE, WRONG_RING_TERMS),
}


def params(*names):
    """What Refusals.all_refusals asks for, for these arguments."""
    return [(name, *PARAMS[name]) for name in names]


def any_kind_term(random, deep=2):
    """What may be a kind term, if its parts fit."""
    word = random.choice(("top", "flags", "pair", "without", "reads") if deep > 0 else ("top", "flags"))
    if word == "top":
        return word, random.choice((2, 2, 3, 4, 8))
    if word == "flags":
        return word, random.choice((1, 1, 2, 3))
    inner = any_kind_term(random, deep - 1)
    if word == "pair":
        return word, inner, any_kind_term(random, deep - 1)
    if word == "without":
        return word, inner, random.choice((0, 0, 1, 2, 3))
    many = random.choice((2, 3, 4, 8))
    try:
        many = len(slow_terms.named_kind(inner)[0])
    except slow_terms.NoTerm:
        pass
    return word, inner, tuple(random.randrange(10) for _ in range(many if random.random() < 0.9 else random.randint(1, 8)))


def any_ring_term(random, net, pool, deep=4):
    """What may be a ring term, if its parts fit; it has settings of a pool."""
    words = ("round", "all", "then", "then", "times", "turn", "but", "both")
    word = random.choice(words if deep > 0 else words[:2])
    stations = list(slow.stations(net))
    if word == "round":
        return word, random.choice(pool), tuple(sorted(random.sample(stations, random.randrange(len(stations) + 1))))
    if word == "all":
        return word, random.choice(pool)
    inner = any_ring_term(random, net, pool, deep - random.choice((1, 1, 2)))
    if word == "then":
        return word, inner, any_ring_term(random, net, pool, deep - random.choice((1, 1, 2)))
    if word == "both":
        second = ("but", inner, random.choice(stations)) if deep > 1 else any_ring_term(random, net, pool, deep - 1)
        return word, inner, random.choice((second, any_ring_term(random, net, pool, deep - 1)))
    if word == "but":
        return word, inner, random.choice(stations)
    return word, inner, random.choice((1, 2, 3, 5) if word == "turn" else (1, 2, 2, 3))


def good_kind_term(random):
    while True:
        term = any_kind_term(random)
        if not isinstance(slow_terms.told(slow_terms.kind_of, term), list):
            return term


def good_ring_term(random, net):
    pool = [random_settings(random, net) for _ in range(2)]
    while True:
        term = any_ring_term(random, net, pool, random.choice((1, 2, 3, 4)))
        if not isinstance(slow_terms.told(slow_terms.ring_of, net, term), list):
            return term


def some_kind_terms(seed, many):
    random = Random(seed)
    return list(KIND_TERMS) + [good_kind_term(random) for _ in range(many)]
