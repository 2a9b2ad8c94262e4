"""Desks: a live relay led by lines."""

import operator
import re
import unittest
from random import Random

from alikeagain.desk import Desk
from alikeagain.live import Live
from alikeagain.settling import settles
from alikeagain.sheets import relay_of

from tests import slow_live
from tests.letter_samples import NO_STRINGS
from tests.refusals import Refusals
from tests.sheet_samples import DUO, SHEET, WITH_VERDICTS, WRONG_HEADS, head_of, sheet, some_sheets

NUMBER = r"(?:0|[1-9][0-9]{0,2})"
# Lines that are none, whatever the relay is.
NO_LINES = NO_STRINGS + (
    "", " ", "\n", "no", "Round", "ROUND", "rounds", "round ", " round", "round  ", "round\n", "round at", "round 0", "round 0 at",
    "round 0 at ", "round at 0", "round 0 0", "round 0  at 0", "round 0 at  0", "round 0 at 0,", "round 0 at 0, ", "round 0 at 0,1 at 0",
    "round 0 at 0 , 1 at 0", "round 0 at 0 1 at 0", "round , 0 at 0", "round 00 at 0", "round 0 at 00", "round 0 at 1000", "round 0 at -1",
    "round 0 at 0, 0 at 0", "round 1 at 0, 0 at 0", "round 0 at 0 0 0 0 0", "round 999 at 0", "round 0 at 999", "round 0 at 0 x",
    "round 0 at 0, 1", "round 0 At 0", "round 0 at 0\n", "update", "update 0", "update 0 0 0", "update 0 9", "update 9 0", "update 00 0",
    "update 0 00", "update  0 0", "update 0  0", "update 0 0 ", " update 0 0", "update -1 0", "update 0 -1", "update 1000 0", "update x 0",
    "update 0 x", "Update 0 0", "update 0,0", "break", "break 0", "break 0 0 0", "break 9 0", "break 0 9", "break 00 0", "break 0 0 ",
    "broken 0 0", "stick", "stick 0 0", "stick 0 0 0 0", "stick 9 0 0", "stick 0 9 0", "stick 0 0 2", "stick 0 0", "stuck 0 0 0", "stick 0 0 01",
    "heal", "heal 0", "heal 0 0 0 0", "heal 0 0", "heal 0 0 0", "heal 9 9", "undo 1", "undo ", " undo", "undo undo", "stand 0", "stands",
    "stand ", "moment 0", "moments", "alike 0 1", "alike ", "settles 0", "settle", "faults ()", "fault", "acts 0", "act", "never", "joins",
    "copy", "trial", "put 0 0", "go", "yes", "done", "nothing", "not", "-", "a" * 20_000, "0 " * 9_000, "update 0 0\nupdate 0 0",
)


class SlowDesk:
    """A desk by other means: lines are matched, and a live relay is kept as a whole."""

    def __init__(self, text):
        relay = relay_of(text)
        self.live = slow_live.SlowLive(relay, 0, (relay[1][0],) * 2 ** relay[0][0])

    def can_double(self, doubled):
        stations = [station for station, _ in doubled]
        if stations != sorted(set(stations)):
            return False
        for station, places in doubled:
            if station not in self.live.senders() or not 1 <= len(places) <= self.live.relay[4]:
                return False
            if self.live.word_of(station, places) is None:
                return False
        return True

    def say(self, line):
        live = self.live
        many = 2 ** live.relay[0][0]
        full = len(live.history) >= 300
        moment, stand, faults, acts = live.told()
        if match := re.fullmatch(f"update ({NUMBER}) ({NUMBER})", line):
            station, number = map(int, match.groups())
            if station >= many or number >= len(live.relay[1][1]) or full:
                return "no"
            live.update(station, number)
            return "done"
        if re.fullmatch(f"round( {NUMBER} at {NUMBER}( {NUMBER})*(, {NUMBER} at {NUMBER}( {NUMBER})*)*)?", line):
            doubled = ()
            if line != "round":
                parts = [part.split(" at ") for part in line[6:].split(", ")]
                doubled = tuple((int(station), tuple(map(int, places.split()))) for station, places in parts)
            if not self.can_double(doubled) or full:
                return "no"
            return " ".join("-" if state is None else str(state) for state in live.go(doubled))
        if match := re.fullmatch("(break|stick|heal) (.*)", line):
            return self.fault(match.group(1), match.group(2), full)
        if line == "undo":
            return "done" if live.undo() else "nothing"
        return {"stand": " ".join(map(str, stand)), "moment": str(moment), "alike": "yes" if len(set(stand)) == 1 else "not",
                "settles": str(settles(live.relay, faults)).replace("None", "never"), "faults": str(len(faults)),
                "acts": str(acts)}.get(line, "no")

    def fault(self, word, rest, full):
        fault = None
        if word != "stick" and re.fullmatch(f"{NUMBER} {NUMBER}", rest):
            fault = ("broken", *map(int, rest.split()))
        if word != "break" and re.fullmatch(f"{NUMBER} {NUMBER} {NUMBER}", rest):
            fault = ("stuck", *map(int, rest.split()))
        can = self.live.now["faults"] if word == "heal" else self.live.can_put()
        if fault not in can or full:
            return "no"
        getattr(self.live, "heal" if word == "heal" else "put")(fault)
        return "done"


def told_all(desk):
    """All that can be seen of a desk."""
    live = desk.live
    return live.relay, live.moment, live.stand, live.faults, len(live)


def random_line(random, slow):
    """A line for a desk, mostly one that is let."""
    live = slow.live
    word = random.choice(("update", "update", "round", "round", "doubled", "doubled", "put", "heal", "undo", "word", "wrong"))
    some = random.choice((0, 0, 1, 1, 2, 3, 5))
    if word == "update":
        return f"update {some} {random.choice((0, 0, 0, 1, 2))}"
    if word == "doubled":
        parts = [f"{station} at {' '.join(map(str, places))}" for station, places in live.random_doubled(random)]
        if random.random() < 0.3:
            parts.insert(random.randrange(len(parts) + 1), f"{some} at {random.choice('0012')}")
        return " ".join(["round", ", ".join(parts)]) if parts else "round"
    if word == "put" and live.can_put():
        fault = random.choice(live.can_put())
        return " ".join(["break" if fault[0] == "broken" else "stick", *map(str, fault[1:])])
    if word == "heal" and live.now["faults"]:
        return " ".join(["heal", *map(str, random.choice(sorted(live.now["faults"]))[1:])])
    if word in ("undo", "round"):
        return word
    if word == "wrong":
        return random.choice([line for line in NO_LINES if isinstance(line, str) and len(line) < 100])
    return random.choice(("stand", "moment", "alike", "settles", "faults", "acts", f"break {some} {some}", f"stick 0 {some} 1",
                          f"heal {some} {some}", f"heal {some} 0 {some}"))


class TestDesk(Refusals, unittest.TestCase):
    def test_refusals(self):
        def begin(text):
            return told_all(Desk(text))

        self.all_refusals(begin, [("text", SHEET, WRONG_HEADS + WITH_VERDICTS)])

    def test_where_it_begins(self):
        desk = Desk(text=DUO)
        self.assertIsInstance(desk.live, Live)
        self.assertIs(desk.live, desk.live)
        self.assertEqual(told_all(desk), (relay_of(DUO), 0, (0, 0), (), 0))
        self.assertEqual(desk.say(line="stand"), "0 0")
        with self.assertRaises(AttributeError):
            desk.live = desk.live
        self.assertEqual(told_all(Desk(SHEET)), (relay_of(SHEET), 0, (0,) * 4, (), 0))

    def test_by_hand(self):
        desk = Desk(DUO)
        told = (
            ("alike", "yes"), ("settles", "2"), ("moment", "0"), ("acts", "0"), ("faults", "0"), ("undo", "nothing"),
            ("update 1 0", "done"), ("stand", "0 1"), ("alike", "not"), ("update 1 1", "no"), ("update 2 0", "no"),
            # Ahead nobody sends.
            ("round 1 at 0", "no"), ("round", "- -"), ("moment", "1"), ("stand", "0 1"),
            ("round 1 at 0 0", "1 0"), ("stand", "1 1"), ("alike", "yes"), ("moment", "1"), ("acts", "3"), ("undo", "done"),
            ("stand", "0 1"), ("round 0 at 0, 1 at 0 2", "1 0"), ("undo", "done"), ("round 1 at 0, 0 at 0", "no"),
            ("round 0 at 0, 1 at 0 3", "no"), ("round 0 at 0 0 0", "no"), ("acts", "2"),
            ("break 0 1", "done"), ("faults", "1"), ("settles", "never"), ("break 0 1", "no"), ("round 1 at 0", "- 0"),
            ("stick 0 0 0", "done"), ("stick 0 0 1", "no"), ("heal 0 0", "no"), ("heal 0 0 1", "no"), ("heal 0 1", "done"),
            ("faults", "1"), ("settles", "never"), ("heal 0 0 0", "done"), ("settles", "2"), ("acts", "7"), ("round", "1 0"),
            ("stand", "1 1"), ("acts", "8"),
        )
        for number, (line, answer) in enumerate(told):
            self.assertEqual(desk.say(line), answer, f"{number} {line}")
        for _ in range(8):
            self.assertEqual(desk.say("undo"), "done")
        self.assertEqual(desk.say("undo"), "nothing")
        self.assertEqual(told_all(desk), told_all(Desk(DUO)))

    def test_messages_that_are_not_read(self):
        desk = Desk("net 1 0\nkind top 3\nbook ab abab cd\ncopies 2 1\nahead none\nring all 1")
        self.assertEqual(desk.say("round 0 at 0"), "0 -")
        self.assertEqual(desk.say("update 0 0"), "done")
        self.assertEqual(desk.say("round"), "0 -")
        self.assertEqual(desk.say("settles"), "never")
        self.assertEqual(desk.say("stand"), "1 0")
        self.assertEqual(desk.say("round 0 at 0"), "0 1")
        self.assertEqual(desk.say("stand"), "1 1")

    def test_lines_that_are_none(self):
        for text in (DUO, SHEET):
            desk = Desk(text)
            desk.say("update 0 0")
            desk.say("round")
            before = told_all(desk)
            for line in NO_LINES:
                self.assertEqual(desk.say(line), "no", repr(line)[:80])
                self.assertEqual(told_all(desk), before)

    def test_the_live_relay_is_led(self):
        desk = Desk(DUO)
        desk.live.update(0, 0)
        self.assertEqual(desk.say("stand"), "1 0")
        with desk.live.trial() as live:
            self.assertEqual(desk.say("break 0 0"), "done")
            self.assertEqual(live.faults, (("broken", 0, 0),))
            self.assertEqual(desk.say("acts"), "2")
        self.assertEqual(desk.say("faults"), "0")
        self.assertEqual(desk.say("undo"), "done")
        self.assertEqual(desk.live, Desk(DUO).live)
        other = Desk(DUO)
        other.say("update 0 0")
        self.assertNotEqual(desk.live, other.live)

    def test_three_hundred_acts(self):
        desk = Desk(DUO)
        for _ in range(300):
            self.assertEqual(desk.say("update 1 0"), "done")
        for line in ("update 1 0", "round", "break 0 0", "stick 0 0 0", "heal 0 0"):
            self.assertEqual(desk.say(line), "no")
        self.assertEqual(desk.say("acts"), "300")
        self.assertEqual(desk.say("stand"), "0 2")
        self.assertEqual(desk.say("settles"), "2")
        self.assertEqual(desk.say("undo"), "done")
        self.assertEqual(desk.say("break 0 0"), "done")
        self.assertEqual(desk.say("heal 0 0"), "no")

    def test_by_other_means(self):
        told = {}
        random = Random(431)
        for parts, _, _ in some_sheets(432, 90):
            text = sheet(head_of(parts))
            desk, slow = Desk(text), SlowDesk(text)
            for _ in range(40):
                line = random_line(random, slow)
                answer = slow.say(line)
                self.assertEqual(desk.say(line), answer, (text, line))
                self.assertIs(type(answer), str)
                self.assertEqual(told_all(desk)[1:], slow.live.told())
                told[line.split(" ")[0], answer == "no"] = True
                told[line == "round", "-" in answer] = True
            for line in ("stand", "moment", "alike", "settles", "faults", "acts"):
                self.assertEqual(desk.say(line), slow.say(line))
        words = ("update", "round", "break", "stick", "heal")
        self.assertLessEqual({(word, is_no) for word in words for is_no in (False, True)}, set(told))
        self.assertIn((False, True), told)

    def test_operators(self):
        desk = Desk(SHEET)
        for value in (None, 3, desk.live, SHEET):
            self.assertIs(desk == value, False)
            self.assertIs(desk != value, True)
        for sign in (operator.add, operator.lt, operator.contains):
            with self.assertRaises(TypeError):
                sign(desk, desk)


if __name__ == "__main__":
    unittest.main()
