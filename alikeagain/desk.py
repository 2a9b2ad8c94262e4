"""A desk: a live relay led by lines."""

from alikeagain.errors import AlikeError, TooGreat
from alikeagain.lines import is_number_word, line_of
from alikeagain.live import Live
from alikeagain.nets import stations_of
from alikeagain.sheets import bare_relay_of

NO = "no"
DONE = "done"


def numbers_of(words):
    """The integers that some words are, or None if one is none."""
    if not all([is_number_word(word) for word in words]):
        return None
    return [int(word) for word in words]


def message_of(text):
    """A doubled message of a line, a pair of a station and places; None if it is none."""
    words = text.split(" ")
    numbers = numbers_of(words[:1] + words[2:])
    if len(words) < 3 or words[1] != "at" or numbers is None:
        return None
    return numbers[0], tuple(numbers[1:])


def fault_of(words, numbers):
    """The fault that a line puts in or heals, by its words and the integers behind its first one, or None."""
    if words[0] != "stick" and len(numbers) == 2:
        return "broken", numbers[0], numbers[1]
    if words[0] != "break" and len(numbers) == 3:
        return "stuck", numbers[0], numbers[1], numbers[2]
    return None


def told_states(states):
    """The line of some states, or of "-" for nothing."""
    return line_of(["-" if state is None else str(state) for state in states])


def told_number(number):
    """The line of how soon a relay settles."""
    return "never" if number is None else str(number)


class Desk:
    """A live relay that begins at the moment 0 with START at all stations, and answers lines."""

    def __init__(self, text):
        relay = bare_relay_of(text)
        self._led = Live(relay, 0, (relay[1][0],) * stations_of(relay[0]))

    @property
    def live(self):
        """The live relay itself."""
        return self._led

    def say(self, line):
        """The answer to a line."""
        if not isinstance(line, str):
            return NO
        try:
            return self.answer(line)
        except (AlikeError, TooGreat):
            return NO

    def answer(self, line):
        """The answer to a line, if nothing is refused."""
        words = line.split(" ")
        if len(words) == 1:
            return self.answer_word(line)
        if words[0] == "round":
            return self.answer_round(line)
        numbers = numbers_of(words[1:])
        if numbers is None:
            return NO
        if words[0] == "update" and len(numbers) == 2:
            self._led.update(numbers[0], numbers[1])
            return DONE
        if words[0] in ("break", "stick", "heal"):
            return self.answer_fault(words, numbers)
        return NO

    def answer_word(self, word):
        """The answer to a line of one word."""
        if word == "round":
            return told_states(self._led.go())
        if word == "undo":
            return DONE if self._led.undo() else "nothing"
        if word == "stand":
            return told_states(self._led.stand)
        if word == "moment":
            return str(self._led.moment)
        if word == "alike":
            return "yes" if self._led.is_alike() else "not"
        if word == "settles":
            return told_number(self._led.settles())
        if word == "faults":
            return str(len(self._led.faults))
        if word == "acts":
            return str(len(self._led))
        return NO

    def answer_round(self, line):
        """The answer to a round in which messages are doubled."""
        messages = [message_of(text) for text in line[len("round "):].split(", ")]
        if None in messages:
            return NO
        return told_states(self._led.go(tuple(messages)))

    def answer_fault(self, words, numbers):
        """The answer to a fault that is put in or healed."""
        fault = fault_of(words, numbers)
        if fault is None:
            return NO
        if words[0] == "heal":
            self._led.heal(fault)
        else:
            self._led.put(fault)
        return DONE
