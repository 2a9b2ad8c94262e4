"""Papers on whether wishes hold, and rows of spots that fulfil them or not."""

import unittest
from random import Random

from alikeagain.errors import BadPaper, BadStand, BadWish, TooGreat
from alikeagain.wishpapers import check_wish, fulfils, wish_paper

from tests import slow_wishes
from tests.kind_samples import SINGLE, flags, greatest
from tests.plan_samples import COME, GO, KEEP, SMALL, TURN, longest
from tests.refusals import NO_TUPLES, Refusals, otherwise
from tests.relay_samples import CLEAR, MIXED, RELAY, SWAP, STAND
from tests.test_wishes import ALIKE, two
from tests.wish_samples import SPOT, params, random_saying, random_wish, some_wishing

ASKED = ("relay", "faults", "may", "begin")
FORMS = NO_TUPLES + ((), ("holds",), ("holds", (), ()), ("fails", ()), ("fails",), ("fails", (), (), ()), ["holds", ()],
                     ("Holds", ()), (None, ()), ((), (), ()), ("holds", (), (), ()), ("fails", 0))
WORDS = ("always", "later", "until", "again", "last", "within", "from")


def some_wishes(random, relay, many):
    return [random_wish(random, relay) for _ in range(many)]


class TestFulfils(Refusals, unittest.TestCase):
    def test_refusals(self):
        self.all_refusals(fulfils, params("relay", "wish", "ahead", "loop", wish="few_wishes"))

    def test_by_hand(self):
        relay = two(greatest(2), TURN, KEEP)
        alike, apart = (0, (1, 1)), (1, (0, 1))
        self.assertTrue(fulfils(relay, ("always", ALIKE), (), (alike,)))
        self.assertFalse(fulfils(relay, ("always", ALIKE), (apart,), (alike,)))
        self.assertFalse(fulfils(relay, ("always", ALIKE), (alike,), (alike, apart)))
        self.assertTrue(fulfils(relay, ("later", ALIKE), (alike,), (apart,)))
        self.assertFalse(fulfils(relay, ("later", ALIKE), (apart,), (apart, apart)))
        self.assertTrue(fulfils(relay, ("until", ("moment", 1), ALIKE), (apart, apart), (apart, alike)))
        self.assertTrue(fulfils(relay, ("until", ("moment", 0), ALIKE), (alike, apart), (apart,)))
        self.assertFalse(fulfils(relay, ("until", ("moment", 0), ALIKE), (apart,), (alike,)))
        self.assertFalse(fulfils(relay, ("until", ("moment", 1), ALIKE), (apart,), (apart,)))
        self.assertTrue(fulfils(relay, ("again", ALIKE), (), (apart, alike)))
        self.assertFalse(fulfils(relay, ("again", ALIKE), (alike,) * 9, (apart,)))
        self.assertTrue(fulfils(relay, ("last", ALIKE), (apart,), (alike,)))
        self.assertFalse(fulfils(relay, ("last", ALIKE), (alike,), (alike, apart)))
        self.assertTrue(fulfils(relay, ("within", 2, ALIKE), (apart, apart), (alike, apart)))
        self.assertFalse(fulfils(relay, ("within", 1, ALIKE), (apart, apart), (alike, apart)))
        self.assertTrue(fulfils(relay, ("within", 60, ALIKE), (), (apart, alike)))
        self.assertTrue(fulfils(relay, ("from", 2, ALIKE), (alike, apart), (alike,)))
        self.assertFalse(fulfils(relay, ("from", 1, ALIKE), (alike, apart), (alike,)))
        self.assertFalse(fulfils(relay, ("from", 60, ALIKE), (), (alike, apart)))
        self.assertTrue(fulfils(relay, ("from", 60, ALIKE), (apart,) * 60, (alike,)))
        self.assertFalse(fulfils(relay, ("from", 59, ALIKE), (apart,) * 60, (alike,)))

    def test_rows_that_are_no_runs(self):
        spots = (SPOT, (0, STAND), (0, STAND), (3, (2, 2, 2, 2)))
        self.assertTrue(fulfils(RELAY, ("later", ALIKE), spots, spots[:1]))
        self.assertFalse(fulfils(RELAY, ("later", ALIKE), spots[:3], spots[:2]))

    def test_four_thousand_spots(self):
        row = (SPOT,) * 4000
        self.assertFalse(fulfils(RELAY, ("later", ALIKE), row, row))
        self.refused(fulfils, (RELAY, ("later", ALIKE), (*row, SPOT), None), BadStand, value=(*row, SPOT))
        self.refused(fulfils, (RELAY, ("later", ALIKE), row, (*row, SPOT)), BadStand, value=(*row, SPOT))
        self.refused(fulfils, (RELAY, ("later", ALIKE), row, ()), BadStand, value=())
        self.refused(fulfils, (RELAY, ("later",), None, ()), BadWish, path=())

    def test_by_longer_rows(self):
        told = {}
        random = Random(351)
        for relay, _, _, steps in some_wishing(352, 40):
            for wish in some_wishes(random, relay, 20):
                spots = random.choices(list(steps), k=random.choice((1, 2, 4)))
                ahead = tuple(random.choice(spots) for _ in range(random.choice((0, 0, 1, 2, 5, 62))))
                loop = tuple(random.choice(spots) for _ in range(random.choice((1, 1, 2, 3, 9))))
                expected = slow_wishes.fulfils(relay, wish, ahead, loop)
                self.assertIs(fulfils(relay, wish, ahead, loop), expected, (wish, ahead, loop))
                told[wish[0], expected] = True
        self.assertEqual(len(told), 14)


class TestPapers(Refusals, unittest.TestCase):
    def test_refusals(self):
        self.all_refusals(wish_paper, params(*ASKED, "wish", wish="few_wishes"))
        wrongs = [(value, BadPaper, {"word": "form"}) for value in FORMS]
        wrongs += [(("holds", value), BadPaper, {"word": "holds"}) for value in NO_TUPLES + ((), ((),), ((SPOT, 0),))]
        wrongs += [(("fails", value, (SPOT,)), BadPaper, {"word": "fails"}) for value in NO_TUPLES + ((SPOT,), ((),))]
        wrongs += [(("fails", (), value), BadPaper, {"word": "fails"}) for value in NO_TUPLES + ((), (SPOT,), (0,))]
        good = wish_paper(*[value for _, value, _ in params(*ASKED, "wish")])
        self.all_refusals(check_wish, params(*ASKED, "wish", wish="few_wishes") + [("paper", good, wrongs)])

    def test_by_hand(self):
        relay = two(greatest(2), TURN)
        start, apart, top = (0, (0, 0)), (0, (1, 0)), (0, (1, 1))
        always = ("always", ALIKE)
        self.assertEqual(wish_paper(relay, (), (), start, always), ("holds", ((start, 0),)))
        self.assertEqual(wish_paper(relay, (), (), apart, always), ("fails", (apart,), (top,)))
        # Perhaps other spots, to which no run comes; no others may be left out.
        self.assertEqual(check_wish(relay, (), (), start, always, ("holds", ((start, 0), (top, 0)))), "holds")
        for table in (((top, 0),), ((start, 1),), (((0, (0, 0)), 0), (apart, 0), (top, 0)), ((top, 0), (start, 0)),
                      ((start, 0), (start, 0)), ((start, 0), (start, 1))):
            self.refused(check_wish, (relay, (), (), start, always, ("holds", table)), BadPaper, word="holds")
        last = ("last", ALIKE)
        self.assertEqual(check_wish(relay, (), (), apart, last, ("holds", ((apart, 4000), (top, 7)))), "holds")
        self.assertEqual(check_wish(relay, (), (), top, last, ("holds", ((apart, 4000), (top, 7)))), "holds")
        for table in (((apart, 4001), (top, 7)), ((apart, 7), (top, 7)), ((apart, 7),), ((top, 7),)):
            self.refused(check_wish, (relay, (), (), apart, last, ("holds", table)), BadPaper, word="holds")
        within = ("within", 1, ALIKE)
        self.assertEqual(check_wish(relay, (), (), apart, within, ("holds", ((apart, 1), (top, 0)))), "holds")
        self.assertEqual(check_wish(relay, (), (), top, within, ("holds", ((top, 1),))), "holds")
        for table in (((apart, 2), (top, 0)), ((apart, 1), (top, 1)), ((apart, 1),)):
            self.refused(check_wish, (relay, (), (), apart, within, ("holds", table)), BadPaper, word="holds")
        self.refused(check_wish, (relay, (), (), top, within, ("holds", ((top, 2),))), BadPaper, word="holds")
        # Whatever number has a spot at which it is so, if "later" alone is wished.
        self.assertEqual(check_wish(relay, (), (), top, ("later", ALIKE), ("holds", ((top, 4000),))), "holds")
        away = ("from", 1, ALIKE)
        table = ((apart, 0), (top, 1))
        self.assertEqual(check_wish(relay, (), (), apart, away, ("holds", table)), "holds")
        self.assertEqual(check_wish(relay, (), (), top, away, ("holds", ((top, 0), (top, 1)))), "holds")
        for table in (((apart, 1), (top, 1)), ((apart, 0), (top, 2)), ((apart, 0), (top, 0)), ((top, 1),)):
            self.refused(check_wish, (relay, (), (), apart, away, ("holds", table)), BadPaper, word="holds")
        # No number above N, even where nothing else is missing; and from N on it has to be so.
        self.refused(check_wish, (relay, (), (), top, away, ("holds", ((top, 0), (top, 1), (top, 2)))), BadPaper, word="holds")
        for number, table in ((0, ((apart, 0), (top, 0))), (1, ((apart, 0), (apart, 1), (top, 1)))):
            wish = ("from", number, ALIKE)
            self.refused(check_wish, (relay, (), (), apart, wish, ("holds", table)), BadPaper, word="holds")
        self.assertEqual(check_wish(relay, (), (), top, ("from", 0, ALIKE), ("holds", ((top, 0),))), "holds")

    def test_runs_that_fail_by_hand(self):
        relay = two(SWAP, TURN)
        spots = (0, (0, 0)), (0, (1, 1)), (0, (0, 1)), (0, (1, 0))
        last = ("last", ("has", 0, 0))
        for ahead, loop in (((), spots[:2]), (spots[:1], (spots[1], spots[0])), (spots[:2] * 3, spots[:2])):
            self.assertEqual(check_wish(relay, (), (), spots[0], last, ("fails", ahead, loop)), "fails")
            self.assertEqual(check_wish(relay, (), (), None, last, ("fails", ahead, loop)), "fails")
            self.refused(check_wish, (relay, (), (), spots[1], last, ("fails", ahead, loop)), BadPaper, word="fails")
        # The loop does not come round, the row is no run, it does fulfil the wish.
        for ahead, loop in (((), spots[:1]), (spots[:1], spots[:2]), (spots[1:2], spots[:1]), ((), spots[2:3])):
            self.refused(check_wish, (relay, (), (), None, last, ("fails", ahead, loop)), BadPaper, word="fails")
        self.assertEqual(check_wish(relay, (), (), None, last, ("fails", (), spots[3:])), "fails")
        # By MAY there are more runs.
        by = ("fails", (), (spots[0], spots[2]))
        self.refused(check_wish, (relay, (), (), None, ("always", ALIKE), by), BadPaper, word="fails")
        self.assertEqual(check_wish(relay, (), ((1, 0),), None, ("always", ALIKE), ("fails", spots[:1], spots[2:3])), "fails")

    def test_papers_hold(self):
        told = {}
        random = Random(353)
        for relay, faults, may, steps in some_wishing(354, 60):
            for wish in some_wishes(random, relay, 6):
                begin = random.choice((None, random.choice(list(steps))))
                holds = slow_wishes.holds(relay, steps, begin, wish)
                paper = wish_paper(relay, faults, may, begin, wish)
                self.assertEqual(paper[0], "holds" if holds else "fails")
                self.assertEqual(check_wish(relay, faults, may, begin, wish, paper), paper[0])
                self.assertEqual(slow_wishes.paper_on_wish(relay, steps, begin, wish, paper), paper[0])
                told[wish[0], holds, begin is None] = True
        self.assertEqual(len(told), 28)

    def test_papers_with_something_otherwise(self):
        held = {}
        for relay, faults, may, begin, wish, steps in self.small_cases():
            paper = wish_paper(relay, faults, may, begin, wish)
            for other in otherwise(paper):
                expected = slow_wishes.paper_on_wish(relay, steps, begin, wish, other)
                if isinstance(expected, list):
                    self.refused(check_wish, (relay, faults, may, begin, wish, other), BadPaper, word=expected[0])
                else:
                    self.assertEqual(check_wish(relay, faults, may, begin, wish, other), expected)
                held[paper[0], wish[0], isinstance(expected, list)] = True
        # Each word with both sorts of papers, refused and taken with something otherwise; of "always" no number can be.
        self.assertLessEqual({(sort, word, True) for sort in ("holds", "fails") for word in WORDS}, set(held))
        self.assertGreaterEqual(len(held), 22)

    def small_cases(self):
        """Wishes of relays of two stations the papers on which are short."""
        random = Random(355)
        found = {}
        for relay, faults, may, steps in some_wishing(356, 90, 27):
            for wish in some_wishes(random, relay, 8):
                begin = random.choice((None, random.choice(list(steps)), random.choice(list(steps))))
                paper = wish_paper(relay, faults, may, begin, wish)
                many = len(repr(paper))
                key = (paper[0], wish[0], begin is None)
                if 40 < many < 420 and len(relay[0][1]) < 3 and len(found.get(key, [])) < 3:
                    found.setdefault(key, []).append((relay, faults, may, begin, wish, steps))
        self.assertGreaterEqual(len(found), 24)
        return [case for cases in found.values() for case in cases]

    def test_wishes_for_others_than_the_paper_is_on(self):
        """A paper on one wish is taken for another one just where it shows this, too."""
        told = {}
        random = Random(357)
        for relay, faults, may, steps in some_wishing(358, 40, 40):
            begin = random.choice((None, random.choice(list(steps))))
            saying = random_saying(random, relay)
            wishes = [(word, saying) for word in ("always", "later", "again", "last")]
            wishes += [("until", random_saying(random, relay), saying), ("within", 2, saying), ("from", 2, saying)]
            for one in wishes:
                paper = wish_paper(relay, faults, may, begin, one)
                for other in wishes:
                    expected = slow_wishes.paper_on_wish(relay, steps, begin, other, paper)
                    if isinstance(expected, list):
                        self.refused(check_wish, (relay, faults, may, begin, other, paper), BadPaper, word=expected[0])
                    else:
                        self.assertEqual(check_wish(relay, faults, may, begin, other, paper), expected)
                    told[one[0], other[0], isinstance(expected, list)] = True
        self.assertGreater(len(told), 60)

    def test_great_relays(self):
        net, plan = longest(3)
        relay = (net, flags(3), CLEAR, 2, 4, plan)
        # However many spots there are, a paper on a few of them can be checked.
        stand = (7, 3, 3, 3, 3, 3, 3, 3)
        top = tuple((moment, (7,) * 8) for moment in range(6, 12))
        wish = ("always", ALIKE)
        self.assertEqual(check_wish(relay, (), (), top[0], wish, ("holds", tuple((spot, 0) for spot in top))), "holds")
        self.refused(check_wish, (relay, (), (), None, wish, ("holds", tuple((spot, 0) for spot in top))),
                     BadPaper, word="holds")
        self.refused(check_wish, (relay, (), (), None, wish, ("fails", ((11, stand),), top)), BadPaper, word="fails")
        self.refused(wish_paper, (relay, (), (), top[0], wish), TooGreat, most=2000)
        self.refused(check_wish, (relay, (), (), top[0], wish, ("holds",)), BadPaper, word="form")
        mixed = (SMALL, greatest(8), MIXED, 2, 4, ((GO,) * 6, (COME,) * 6))
        stay = tuple((moment, (7, 0)) for moment in range(6, 12))
        self.assertEqual(check_wish(mixed, (), (), None, ("later", ALIKE), ("fails", (), stay)), "fails")
        self.assertEqual(check_wish(mixed, (), ((1, 0),), None, ("later", ALIKE), ("fails", (), stay)), "fails")

    def test_long_papers(self):
        single = (SMALL, SINGLE, ("ab",), 2, 1, ((), (TURN,)))
        spot = (0, (0, 0))
        wish = ("last", ("not", ALIKE))
        self.assertEqual(check_wish(single, (), (), None, wish, ("fails", (spot,) * 5000, (spot,) * 5000)), "fails")
        self.assertEqual(wish_paper(single, (), ((0, 0),), spot, wish), ("fails", (spot,), (spot,)))
        far = ("from", 60, ALIKE)
        paper = wish_paper(single, (), (), spot, far)
        self.assertEqual(paper, ("holds", tuple((spot, number) for number in range(61))))
        self.assertEqual(check_wish(single, (), (), None, far, paper), "holds")
        for number in (0, 7, 60):
            lesser = ("holds", paper[1][:number] + paper[1][number + 1:])
            self.refused(check_wish, (single, (), (), None, far, lesser), BadPaper, word="holds")


if __name__ == "__main__":
    unittest.main()
