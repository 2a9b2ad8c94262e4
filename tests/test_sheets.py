"""Sheets: the relay that they tell, and verdicts on it."""

import unittest
from random import Random

from alikeagain.books import is_clear, need_book
from alikeagain.delays import delay
from alikeagain.errors import AlikeError, BadBook, BadLines, BadWish, TooGreat
from alikeagain.joins import joins
from alikeagain.kinds import coming
from alikeagain.letters import need_size, need_times
from alikeagain.lines import read_kind, read_net, read_ring, read_wish
from alikeagain.plans import hears_at
from alikeagain.reading import read
from alikeagain.relays import need_relay
from alikeagain.settling import settles
from alikeagain.sheets import judged, relay_of
from alikeagain.terms import kind_of, ring_of
from alikeagain.wishes import wish_holds

from tests import slow, slow_lines, slow_plans, slow_wishes
from tests.plan_samples import KEEP, SMALL, TURN
from tests.refusals import Refusals, agree, fields_of
from tests.sheet_samples import DUO, FULL, HEAD, SHEET, VERDICTS, WRONG_HEADS, WRONG_VERDICTS, changed, head_of, sheet, some_sheets
from tests.wish_samples import random_wish

NET = (2, ((0, 2, 1, 3),))
PAIR_KIND = (0, ((2, 3, 2, 3), (1, 1, 3, 3)), ((0, 1, 2, 3), (1, 1, 3, 3), (2, 3, 2, 3), (3, 3, 3, 3)), (0, 1, 2, 3))
ALL = (0, 1, 2, 3)


def verdict_so(relay, line):
    """Whether a verdict is so, by what the functions of the other parts tell."""
    word, *rest = line.split(" ")
    net, kind, book, size, times, plan = relay
    if word == "joins":
        return joins(kind)
    if word == "clear":
        return is_clear(book, size, times)
    if word in ("delay", "apart"):
        return delay(net, plan, ()) == (None if word == "apart" else int(rest[0]))
    if word in ("settles", "never"):
        return settles(relay, ()) == (None if word == "never" else int(rest[0]))
    if word in ("hears", "nothing"):
        moment, station, other = int(rest[0]), int(rest[1]), None if word == "nothing" else int(rest[2])
        if moment >= len(plan[0]) + len(plan[1]) or station >= 2 ** net[0]:
            return False
        return hears_at(net, plan, (), moment)[station] == other
    if word == "heard":
        return read(book, size, times, rest[0]) == int(rest[1])
    if word == "unread":
        return read(book, size, times, rest[0]) is None
    return wish_holds(relay, (), (), None, read_wish(relay, " ".join(rest)))


def slowly_so(relay, line):
    """Whether a verdict is so, by going through everything; None if this takes too long."""
    word, *rest = line.split(" ")
    net, kind, book, size, times, plan = relay
    if word == "joins":
        return not slow.broken(kind, slow.close(kind))
    if word == "clear":
        return not slow.mixed_up(book, size, times)
    if word in ("delay", "apart"):
        return slow_plans.delay(net, plan, ()) == (None if word == "apart" else int(rest[0]))
    if word in ("heard", "unread"):
        found = [number for number, text in enumerate(book) if rest[0] in slow.copies(text, size, times)]
        return found == [int(rest[1])] if word == "heard" else len(found) != 1
    if word in ("settles", "never", "wish") and len(coming(kind)) ** 2 ** net[0] < 70:
        steps = slow_wishes.table(relay, (), ())
        if word == "wish":
            return slow_wishes.holds(relay, steps, None, read_wish(relay, " ".join(rest)))
        least = slow_wishes.least(relay, steps, None, "from", ("alike",))
        return least == (None if word == "never" else int(rest[0]))
    return None


class TestRelayOf(Refusals, unittest.TestCase):
    def test_refusals(self):
        self.all_refusals(relay_of, [("text", SHEET, WRONG_HEADS + WRONG_VERDICTS)])

    def test_by_hand(self):
        ring = ((((0, 1), (1, 0)), ALL), (((0, 0), (1, 1)), ALL))
        self.assertTrue(agree(relay_of(SHEET), (NET, PAIR_KIND, ("ab", "cd", "ef", "abab"), 2, 1, ((), ring))))
        self.assertTrue(agree(relay_of(FULL), relay_of(SHEET)))
        top = (0, ((1, 2, 2),), ((0, 1, 2), (1, 1, 2), (2, 2, 2)), (0, 1, 2))
        self.assertEqual(relay_of(DUO), (SMALL, top, ("ab", "cd", "ef"), 2, 2, (((((1,),), ()),), (TURN,))))
        whole = "net 1 0\nkind top 2\nbook a b\ncopies 4 0\nahead times 6 all 0\nring then times 5 all 1 all 0"
        self.assertEqual(relay_of(whole)[5], ((KEEP,) * 6, (TURN,) * 5 + (KEEP,)))
        self.assertIs(need_relay(relay_of(whole))[4], 0)
        # As many texts as states come, not as there are.
        half = changed(1, "kind without 0 pair top 2 top 2")
        self.assertEqual(relay_of(half.replace("book ab cd ef abab", "book ab cd"))[2], ("ab", "cd"))
        self.refused(relay_of, (half,), BadBook, place=None)

    def test_by_other_means(self):
        for parts, relay, verdicts in some_sheets(401, 120):
            self.assertTrue(agree(relay_of(sheet(head_of(parts), verdicts)), relay))
            self.assertIs(need_relay(relay), relay)

    def test_a_sheet_of_many_lines(self):
        text = SHEET + "\njoins" * 1000
        self.assertEqual(relay_of(text), relay_of(SHEET))
        self.assertEqual(judged(text), (True,) * 1000)
        self.refused(judged, (text + "\nno",), BadLines, line=1007, word=0)


class TestJudged(Refusals, unittest.TestCase):
    def test_refusals(self):
        self.all_refusals(judged, [("text", FULL, WRONG_HEADS + WRONG_VERDICTS)])

    def test_by_hand(self):
        self.assertEqual(judged(SHEET), ())
        # Two texts are mixed up by one doubling, so nothing settles, though news come round in three rounds.
        self.assertEqual(judged(FULL), (True, False, True, False, False, True, True, False, True, True, False))
        clear = FULL.replace("copies 2 1", "copies 2 0")
        self.assertEqual(judged(clear), (True, True, True, False, True, False, True, False, True, False, True))
        rest = {
            "delay 2": False, "delay 3": True, "delay 4": False, "delay 0": False, "settles 2": False, "settles 4": False,
            "hears 0 0 1": False, "hears 0 0 3": True, "hears 1 0 2": True, "hears 1 0 3": False, "hears 0 0 4": False,
            "hears 0 4 0": False, "hears 2 0 3": False, "hears 0 0 999": False,
            "nothing 0 0": False, "nothing 2 0": False, "nothing 0 4": False, "heard ab 0": True, "heard ab 1": False,
            "heard ab 4": False, "heard ababab 0": False, "heard abab 3": True, "unread ababab": True, "unread ab": False,
            "unread fe": True, "wish last alike": True, "wish from 2 alike": False, "wish from 3 alike": True,
            "wish always moment 0": False, "wish again moment 1": True,
        }
        text = clear[:clear.index("\njoins")]
        for line, so in rest.items():
            self.assertEqual(judged(f"{text}\n{line}"), (so,), line)
        self.assertEqual(judged("\n".join([text, *rest])), tuple(rest.values()))
        duo = DUO + "\nhears 0 0 1\nnothing 0 0\nnothing 0 1\nhears 1 0 1\nnothing 1 0\ndelay 2\nsettles 2\nclear"
        self.assertEqual(judged(duo), (False, True, True, True, False, True, True, True))
        apart = DUO.replace("ring all 1", "ring all 0") + "\napart\nnever\ndelay 0\nsettles 0\nwish later alike\nwish always alike"
        self.assertEqual(judged(apart), (True, True, False, False, False, False))

    def test_by_the_other_functions(self):
        told = {}
        for parts, relay, verdicts in some_sheets(402, 260):
            if [line for line in verdicts if line.startswith("wish")] and self.is_great(relay):
                continue
            # What is so of the relay is asked, too.
            least = delay(relay[0], relay[5], ())
            soon = settles(relay, ())
            verdicts = verdicts + ["apart" if least is None else f"delay {least}", "never" if soon is None else f"settles {soon}"]
            moment = len(relay[5][0])
            other = hears_at(relay[0], relay[5], (), moment)[1]
            verdicts.append(f"nothing {moment} 1" if other is None else f"hears {moment} 1 {other}")
            found = judged(sheet(head_of(parts), verdicts))
            self.assertEqual(found, tuple(verdict_so(relay, line) for line in verdicts))
            for line, so in zip(verdicts, found):
                self.assertIs(type(so), bool)
                self.assertIn(slowly_so(relay, line), (None, so), line)
                told[line.split(" ")[0], so] = True
        # A kind of a language always joins.
        self.assertEqual(len(told), 21)

    def is_great(self, relay):
        return len(coming(relay[1])) ** 2 ** relay[0][0] > 100

    def test_too_great(self):
        great = "net 3 0\nkind top 3\nbook ab cd ef\ncopies 2 2\nahead none\nring all 0000"
        self.assertEqual(judged(great + "\njoins\nclear\napart\nnever\nhears 0 7 7\nheard ab 0"), (True,) * 6)
        self.refused(judged, (great + "\njoins\nwish always alike",), TooGreat, most=2000)
        self.refused(judged, (great + "\nwish always alike\nwish always moment 1",), BadWish, path=(1,))
        self.assertEqual(relay_of(great + "\nwish always alike")[1][3], (0, 1, 2))
        steps = "net 3 0\nkind top 2\nbook ab abab\ncopies 2 2\nahead none\nring all 0000"
        self.refused(judged, (steps + "\nwish always alike",), TooGreat, most=20000)
        self.assertEqual(judged(steps + "\nnever"), (True,))
        self.assertEqual(judged(steps.replace("abab", "cd") + "\nwish always alike"), (False,))


class TestForms(Refusals, unittest.TestCase):
    def test_forms_by_other_means(self):
        for text, error, fields in WRONG_HEADS + WRONG_VERDICTS:
            if isinstance(text, str):
                expected = (fields["line"], fields["word"]) if error is BadLines else None
                self.assertEqual(slow_lines.wrong_word("sheet", text), expected, text)

    def test_changed_sheets(self):
        told = {}
        random = Random(403)
        for parts, relay, verdicts in some_sheets(404, 500, (1, 1, 1, 2)):
            wishes = [f"wish {slow_lines.text_of(random_wish(random, relay))}" for _ in range(random.choice((0, 1, 2)))]
            text = sheet(head_of(parts), verdicts[:3] + wishes)
            for _ in range(5):
                other = text
                for _ in range(random.choice((1, 1, 2))):
                    other = slow_lines.changed(random, other)
                self.check(other, told)
        self.assertLessEqual({"BadLines", "BadNet", "BadTerm", "BadBook", "BadNumber", "BadWish", "taken"}, set(told))

    def check(self, text, told):
        wrong = slow_lines.wrong_word("sheet", text)
        if wrong is not None:
            self.refused(relay_of, (text,), BadLines, line=wrong[0], word=wrong[1])
            self.refused(judged, (text,), BadLines, line=wrong[0], word=wrong[1])
            told["BadLines"] = True
            return
        try:
            expected = self.by_parts(text)
        except AlikeError as error:
            self.refused(relay_of, (text,), type(error), **fields_of(error))
            self.refused(judged, (text,), type(error), **fields_of(error))
            told[type(error).__name__] = True
        else:
            self.assertTrue(agree(relay_of(text), expected))
            told["taken"] = True

    def by_parts(self, text):
        """The relay of a text that has the form, each line being read by itself, in order."""
        lines = text.split("\n")
        many = int(lines[0].split(" ")[2]) + 1
        net = read_net("\n".join(lines[:many]))
        kind_line, book_line, copies_line, ahead_line, ring_line, *verdicts = lines[many:]
        kind = kind_of(read_kind(kind_line[len("kind "):]))
        book = need_book(tuple(book_line.split(" ")[1:]))
        if len(book) != len(coming(kind)):
            raise BadBook(None)
        size, times = map(int, copies_line.split(" ")[1:])
        need_size(size)
        need_times(times)
        ahead = () if ahead_line == "ahead none" else ring_of(net, read_ring(net, ahead_line[len("ahead "):]))
        relay = net, kind, book, size, times, (ahead, ring_of(net, read_ring(net, ring_line[len("ring "):])))
        for line in verdicts:
            if line.startswith("wish "):
                read_wish(relay, line[len("wish "):])
        return relay

    def test_samples(self):
        self.assertEqual(len(FULL.split("\n")), 1 + len(HEAD) + len(VERDICTS))


if __name__ == "__main__":
    unittest.main()
