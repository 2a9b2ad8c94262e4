"""The texts of nets, terms, sayings and wishes, and what is read of texts."""

import unittest
from random import Random

from alikeagain.errors import BadLines, BadNet, BadTerm, BadWish
from alikeagain.lines import kind_text, net_text, read_kind, read_net, read_ring, read_wish, ring_text, saying_text, wish_text
from alikeagain.terms import need_kind_term, need_ring_term
from alikeagain.wishes import need_wish

from tests import nets_samples, slow, slow_lines, term_samples, wish_samples
from tests.nets_samples import NET, NETS, OMEGA
from tests.plan_samples import CROSS, STRAIGHT
from tests.letter_samples import NO_STRINGS
from tests.refusals import Refusals, agree
from tests.relay_samples import RELAY
from tests.term_samples import KIND_TERMS, ONE, PAIR, RING_TERMS, TWO, good_kind_term, good_ring_term
from tests.wish_samples import ALIKE, SIMPLE, TWELVE, TWELVE_DEEP, nots, random_saying, random_wish

NO_TEXTS = [(value, BadLines, {"line": None, "word": None}) for value in NO_STRINGS]


def no_lines(*rows):
    return NO_TEXTS + [(text, BadLines, {"line": line, "word": word}) for text, line, word in rows]


WRONG_NET_TEXTS = no_lines(
    ("", 0, 0), ("nets 2 1", 0, 0), ("net", 0, 1), ("net 4 0", 0, 1), ("net 0 0", 0, 1), ("net 2", 0, 2), ("net 2 4", 0, 2),
    ("net 2 -1", 0, 2), ("net 02 1", 0, 1), ("net  2 1", 0, 1), (" net 2 1", 0, 0), ("net 2 1 ", 0, 3), ("net 2 0 0", 0, 3),
    ("net 2 1", 1, 0), ("net 2 2\n0 1 2 3", 2, 0), ("net 2 1\n", 1, 0), ("net 2 1\n0 1 2", 1, 3), ("net 2 1\n0 1 2 3 4", 1, 4),
    ("net 2 1\n0 1  3", 1, 2), ("net 2 1\n0 1 2 1000", 1, 3), ("net 2 1\n0 1 2 03", 1, 3), ("net 2 1\n0 1 2 3\n", 2, 0),
    ("net 2 1\n0 1 2 3\n0 1 2 3", 2, 0), ("net 2 0\n", 1, 0), ("net 2 1\n\n0 1 2 3", 1, 0), ("net 2 1\n0 1 2 x\nnet", 1, 3),
) + [("net 2 1\n0 1 2 999", BadNet, {"place": (1, 0)}), ("net 2 2\n0 1 2 3\n0 1 1 3", BadNet, {"place": (1, 1)}),
     ("net 1 1\n0 0", BadNet, {"place": (1, 0)})]
WRONG_KIND_TEXTS = no_lines(
    ("", 0, 0), ("kind top 2", 0, 0), ("top", 0, 1), ("top 2 3", 0, 2), ("top 02", 0, 1), ("top 1000", 0, 1), ("top 2 ", 0, 2),
    ("top  2", 0, 1), ("pair top 2", 0, 3), ("pair top 2 top", 0, 4), ("pair top 2 top 2 top 2", 0, 5), ("without top 2", 0, 1),
    ("without 0", 0, 2), ("without 0 0 top 2", 0, 2), ("reads 0 top 2", 0, 1), ("reads 9 0 0 0 0 0 0 0 0 0 top 8", 0, 1),
    ("reads 2 0 top 2", 0, 3), ("reads 2 0 0 0 top 2", 0, 4), ("reads 2 0 0", 0, 4), ("top 2\n", 1, 0), ("top 2\ntop 2", 1, 0),
    ("top 2\n\n", 1, 0), ("top x\n", 0, 1), ("all 00.00", 0, 0), ("reads 2 0 0 reads 2 0 0 top 2 3", 0, 10), ("Top 2", 0, 0),
    # A ninth word cannot stand, whatever it is.
    ("without 0 " * 8 + "top 2", 0, 16), ("without 0 " * 8 + "x", 0, 16), ("without 0 " * 8, 0, 16),
) + [("top 1", BadTerm, {"path": ()}), ("top 999", BadTerm, {"path": ()}), ("pair top 2 top 9", BadTerm, {"path": (2,)}),
     ("without 0 top 2", BadTerm, {"path": ()}), ("reads 2 0 10 top 2", BadTerm, {"path": ()}),
     ("without 0 " * 7 + "top 2", BadTerm, {"path": ()}), ("reads 3 0 0 0 top 2", BadTerm, {"path": ()}),
     ("pair without 0 flags 2 without 0 top 2", BadTerm, {"path": (2,)})]
WRONG_RING_TEXTS = no_lines(
    ("", 0, 0), ("ring all 00.00", 0, 0), ("none", 0, 0), ("all", 0, 1), ("all 00.00 0", 0, 2), ("all 00.02", 0, 1),
    ("all 00..00", 0, 1), ("all .00", 0, 1), ("all 00.", 0, 1), ("all 00.00.00.00.00", 0, 1), ("all 00000", 0, 1), ("all ", 0, 1),
    ("round 00.00", 0, 2), ("round 00.00 8", 0, 2), ("round 00.00 012345670", 0, 2), ("round 00.00 ", 0, 2),
    ("round 00.00 none 0", 0, 3), ("round 00.00 None", 0, 2), ("times all 00.00", 0, 1), ("times 2 2 all 00.00", 0, 2),
    ("then all 00.00", 0, 3), ("then all 00.00 all 00.00 all 00.00", 0, 5), ("all 00.00\n", 1, 0), ("all 00.00\nall", 1, 0),
    ("turn 0 " * 12 + "all 00.00", 0, 24), ("turn 0 " * 12 + "x", 0, 24), ("top 2", 0, 0),
) + [("all 00", BadTerm, {"path": ()}), ("all 0.0", BadTerm, {"path": ()}), ("all 0000.0000", BadTerm, {"path": ()}),
     ("round 00.00 10", BadTerm, {"path": ()}), ("round 00.00 4", BadTerm, {"path": ()}),
     ("round 00.00 00", BadTerm, {"path": ()}), ("times 7 all 00.00", BadTerm, {"path": ()}),
     ("turn 0 " * 11 + "all 00.00", BadTerm, {"path": ()}), ("but 4 all 00.00", BadTerm, {"path": ()}),
     ("then all 00.00 both all 00.00 all 11.11", BadTerm, {"path": (2,)}), ("then all 00.00 all 00", BadTerm, {"path": (2,)})]
WRONG_WISH_TEXTS = no_lines(
    ("", 0, 0), ("wish always alike", 0, 0), ("alike", 0, 0), ("always", 0, 1), ("always alike alike", 0, 2), ("always not", 0, 2),
    ("always and alike", 0, 3), ("until alike", 0, 2), ("within alike", 0, 1), ("within 3", 0, 2), ("within 03 alike", 0, 1),
    ("within 1000 alike", 0, 1), ("always same 0", 0, 3), ("always same 0 x", 0, 3), ("always moment", 0, 2),
    ("always alike ", 0, 2), ("always  alike", 0, 1), ("always alike\n", 1, 0), ("last alike\nlast alike", 1, 0),
    ("always " + "not " * 12 + "alike", 0, 13), ("always " + "not " * 12 + "x", 0, 13), ("always " + "not " * 12, 0, 13),
    ("until " + "not " * 11 + "alike " + "not " * 12 + "alike", 0, 25),
) + [("within 61 alike", BadWish, {"path": ()}), ("always moment 4", BadWish, {"path": (1,)}),
     ("always " + "not " * 11 + "alike", BadWish, {"path": (1,) * 6}), ("until alike same 1 1", BadWish, {"path": (2,)}),
     ("from 60 and alike or alike reads 0 10", BadWish, {"path": (2, 2, 2)}), ("later has 0 4", BadWish, {"path": (1,)})]
PARAMS = {
    "net": (NET, nets_samples.WRONG_NETS[::3]),
    "kind_term": term_samples.PARAMS["kind_term"],
    "ring_term": term_samples.PARAMS["ring_term"],
    "relay": wish_samples.PARAMS["relay"],
    "saying": wish_samples.PARAMS["saying"],
    "wish": wish_samples.PARAMS["wish"],
    "net text": ("net 2 1\n0 2 1 3", WRONG_NET_TEXTS),
    "kind text": ("pair flags 2 reads 2 7 7 top 2", WRONG_KIND_TEXTS),
    "ring text": ("but 0 then all 00.00 round 11.11 02", WRONG_RING_TEXTS),
    "wish text": ("within 3 or same 0 1 not reads 2 9", WRONG_WISH_TEXTS),
}


def params(*names, text=None):
    """What Refusals.all_refusals asks for, for these arguments, perhaps with a text."""
    found = [(name, *PARAMS[name]) for name in names]
    return found + ([("text", *PARAMS[text])] if text else [])


class TestTexts(Refusals, unittest.TestCase):
    def test_refusals(self):
        self.all_refusals(net_text, params("net"))
        self.all_refusals(kind_text, params("kind_term"))
        self.all_refusals(ring_text, params("net", "ring_term"))
        self.all_refusals(saying_text, params("relay", "saying"))
        self.all_refusals(wish_text, params("relay", "wish"))

    def test_by_hand(self):
        self.assertEqual(net_text((1, ())), "net 1 0")
        self.assertEqual(net_text(NET), "net 2 1\n0 2 1 3")
        self.assertEqual(net_text((1, ((1, 0), (0, 1)))), "net 1 2\n1 0\n0 1")
        self.assertEqual(kind_text(TWO), "top 2")
        self.assertEqual(kind_text(("flags", 3)), "flags 3")
        self.assertEqual(kind_text(("without", PAIR, 1)), "without 1 pair top 2 top 2")
        self.assertEqual(kind_text(("reads", TWO, (9, 0))), "reads 2 9 0 top 2")
        self.assertEqual(kind_text(("pair", ("without", ("flags", 2), 0), TWO)), "pair without 0 flags 2 top 2")
        self.assertEqual(ring_text(NET, ONE), "all 00.00")
        self.assertEqual(ring_text(NET, ("round", ((0, 1), (1, 0)), (0, 3))), "round 01.10 03")
        self.assertEqual(ring_text(NET, ("round", CROSS, ())), "round 11.11 none")
        self.assertEqual(ring_text(NET, ("times", ("then", ONE, ("but", ONE, 3)), 2)), "times 2 then all 00.00 but 3 all 00.00")
        self.assertEqual(ring_text(NET, ("both", ONE, ("turn", ONE, 5))), "both all 00.00 turn 5 all 00.00")
        self.assertEqual(ring_text((1, ()), ("all", ((1,),))), "all 1")
        eight = ((0, 1, 0, 1),) * 3
        self.assertEqual(ring_text(OMEGA, ("round", eight, (0, 7))), "round 0101.0101.0101 07")
        self.assertEqual(saying_text(RELAY, ALIKE), "alike")
        self.assertEqual(saying_text(RELAY, ("or", ("same", 0, 3), ("and", ("has", 1, 2), ("not", ("moment", 3))))),
                         "or same 0 3 and has 1 2 not moment 3")
        self.assertEqual(saying_text(RELAY, ("reads", 2, 9)), "reads 2 9")
        self.assertEqual(wish_text(RELAY, ("within", 60, ALIKE)), "within 60 alike")
        self.assertEqual(wish_text(RELAY, ("until", ("not", ALIKE), ALIKE)), "until not alike alike")

    def test_by_other_means(self):
        random = Random(371)
        for net in NETS:
            self.assertEqual(net_text(net), slow_lines.text_of_net(net))
            self.assertTrue(agree(read_net(net_text(net)), net))
        for term in list(KIND_TERMS) + [good_kind_term(random) for _ in range(200)]:
            self.assertEqual(kind_text(term), slow_lines.text_of(term))
            self.assertTrue(agree(read_kind(kind_text(term)), term))
        for term in list(RING_TERMS):
            self.assertTrue(agree(read_ring(NET, ring_text(NET, term)), term))
        for _ in range(200):
            net = nets_samples.random_net(random, random.choice((1, 2, 2)))
            term = good_ring_term(random, net)
            self.assertEqual(ring_text(net, term), slow_lines.text_of(term))
            self.assertTrue(agree(read_ring(net, ring_text(net, term)), term))
        for saying in SIMPLE + (TWELVE, TWELVE_DEEP, nots(ALIKE, 4)) + tuple(random_saying(random, RELAY) for _ in range(200)):
            self.assertEqual(saying_text(RELAY, saying), slow_lines.text_of(saying))
            wish = ("always", saying)
            self.assertTrue(agree(read_wish(RELAY, wish_text(RELAY, wish)), wish))
        for wish in [("until", TWELVE, TWELVE_DEEP)] + [random_wish(random, RELAY) for _ in range(200)]:
            self.assertEqual(wish_text(RELAY, wish), slow_lines.text_of(wish))
            self.assertTrue(agree(read_wish(RELAY, wish_text(RELAY, wish)), wish))


class TestReading(Refusals, unittest.TestCase):
    def test_refusals(self):
        self.all_refusals(read_net, params(text="net text"))
        self.all_refusals(read_kind, params(text="kind text"))
        self.all_refusals(read_ring, params("net", text="ring text"))
        self.all_refusals(read_wish, params("relay", text="wish text"))

    def test_forms_by_other_means(self):
        for sort, key in (("net", "net text"), ("kind", "kind text"), ("ring", "ring text"), ("wish", "wish text")):
            for text, error, fields in PARAMS[key][1]:
                if isinstance(text, str):
                    expected = (fields["line"], fields["word"]) if error is BadLines else None
                    self.assertEqual(slow_lines.wrong_word(sort, text), expected, text)

    def test_terms_of_as_many_words_as_can_be(self):
        # Seven words at the most are no deeper than a kind term may be; by their form there may be eight.
        seven = "pair pair without 0 flags 2 top 2 top 2"
        self.refused(read_kind, (seven,), BadTerm, path=())
        twelve = ring_text(NET, RING_TERMS[-1])
        self.assertEqual(sum(word in slow_lines.RINGS for word in twelve.split()), 12)
        self.assertEqual(read_ring(NET, twelve), RING_TERMS[-1])
        words = wish_text(RELAY, ("until", TWELVE, TWELVE)).split()
        self.assertEqual(sum(word in slow_lines.SAYINGS for word in words), 24)

    def test_changed_texts(self):
        told = {}
        random = Random(372)
        readers = {"net": read_net, "kind": read_kind, "ring": lambda text: read_ring(NET, text),
                   "wish": lambda text: read_wish(RELAY, text)}
        writers = {"net": net_text, "kind": kind_text, "ring": lambda term: ring_text(NET, term),
                   "wish": lambda wish: wish_text(RELAY, wish)}
        for _ in range(4000):
            sort = random.choice(tuple(readers))
            text = self.some_text(random, sort)
            for _ in range(random.choice((1, 1, 2))):
                text = slow_lines.changed(random, text)
            wrong = slow_lines.wrong_word(sort, text)
            try:
                value = readers[sort](text)
            except BadLines as error:
                self.assertTrue(agree((error.line, error.word), wrong), f"{sort} {text!r} {wrong} {error.line} {error.word}")
                told[sort, "form"] = True
            except (BadNet, BadTerm, BadWish):
                self.assertIsNone(wrong, text)
                told[sort, "value"] = True
            else:
                self.assertIsNone(wrong, text)
                self.assertEqual(writers[sort](value), text)
                told[sort, "taken"] = True
        self.assertEqual(len(told), 12)

    def some_text(self, random, sort):
        if sort == "net":
            return slow_lines.text_of_net(nets_samples.random_net(random, random.choice((1, 2))))
        if sort == "kind":
            return slow_lines.text_of(good_kind_term(random))
        if sort == "ring":
            return slow_lines.text_of(good_ring_term(random, NET))
        return slow_lines.text_of(random_wish(random, RELAY))

    def test_what_is_read_is_the_value_itself(self):
        self.assertIs(need_kind_term(PAIR), PAIR)
        self.assertTrue(agree(read_kind("reads 4 0 9 0 9 pair top 2 top 2"), ("reads", PAIR, (0, 9, 0, 9))))
        ring = read_ring(NET, "then round 00.00 none all 11.11")
        self.assertTrue(agree(ring, ("then", ("round", STRAIGHT, ()), ("all", CROSS))))
        self.assertIs(need_ring_term(NET, ring), ring)
        wish = read_wish(RELAY, "from 0 and has 3 3 reads 0 0")
        self.assertTrue(agree(wish, ("from", 0, ("and", ("has", 3, 3), ("reads", 0, 0)))))
        self.assertIs(need_wish(RELAY, wish), wish)
        self.assertTrue(agree(read_net("net 1 3\n0 1\n1 0\n0 1"), (1, ((0, 1), (1, 0), (0, 1)))))
        self.assertEqual(len(slow.all_settings(NET)), 16)

    def test_two_wrong_arguments(self):
        self.refused(read_ring, (None, None), BadNet, place=())
        self.refused(read_ring, (NET, None), BadLines, line=None, word=None)
        self.refused(read_ring, (NET, "times 7 all 00.0x"), BadLines, line=0, word=3)
        self.refused(read_ring, (NET, "times 7 all 00.00\n"), BadLines, line=1, word=0)
        self.refused(read_wish, (RELAY, "within 61 alik"), BadLines, line=0, word=2)
        self.refused(read_net, ("net 2 2\n0 0 0 0\n0 1 2 3 4",), BadLines, line=2, word=4)


if __name__ == "__main__":
    unittest.main()
