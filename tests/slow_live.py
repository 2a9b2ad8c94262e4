"""What the document tells of live relays and of logs, by other means: all strings that are heard, whole histories."""

from copy import deepcopy
from itertools import product

from tests import slow, slow_plans, slow_relays

HEARD = {}


def copies(text, size, times):
    if (text, size, times) not in HEARD:
        HEARD[text, size, times] = set(slow.copies(text, size, times))
    return HEARD[text, size, times]


def read(relay, word):
    """The state as which a word is read, or None."""
    found = [state for state, text in zip(slow.close(relay[1]), relay[2]) if word in copies(text, *relay[3:5])]
    return found[0] if len(found) == 1 else None


class SlowLive:
    """A live relay that keeps copies of all that it was."""

    def __init__(self, relay, moment, stand):
        self.relay = relay
        self.now = {"moment": moment, "stand": list(stand), "faults": set()}
        self.history = []

    def keep(self):
        self.history.append(deepcopy(self.now))

    def told(self):
        return self.now["moment"], tuple(self.now["stand"]), tuple(sorted(self.now["faults"])), len(self.history)

    def hears(self):
        one_round = slow_plans.round_at(self.relay[5], self.now["moment"])
        return slow.hears(self.relay[0], one_round, tuple(self.now["faults"]))

    def senders(self):
        return slow_plans.round_at(self.relay[5], self.now["moment"])[1]

    def word_of(self, station, places=()):
        """The message of a station behind doublings at places, or None if it has none there."""
        word = dict(zip(slow.close(self.relay[1]), self.relay[2]))[self.now["stand"][station]]
        for place in places:
            word = dict(slow.doublings(word, self.relay[3])).get(place)
            if word is None:
                return None
        return word

    def update(self, station, number):
        self.keep()
        self.now["stand"][station] = self.relay[1][1][number][self.now["stand"][station]]
        return self.now["stand"][station]

    def go(self, doubled=()):
        self.keep()
        places = dict(doubled)
        heard = [None if sender is None else read(self.relay, self.word_of(sender, places.get(sender, ())))
                 for sender in self.hears()]
        self.now["stand"] = [own if other is None else self.relay[1][2][own][other]
                             for own, other in zip(self.now["stand"], heard)]
        self.now["moment"] = slow_relays.next_moment(self.relay, self.now["moment"])
        return tuple(heard)

    def put(self, fault):
        self.keep()
        self.now["faults"].add(fault)

    def heal(self, fault):
        self.keep()
        self.now["faults"].discard(fault)

    def undo(self):
        if not self.history:
            return False
        self.now = self.history.pop()
        return True

    def can_put(self):
        """All faults that can be put in."""
        known = set(slow.all_faults(self.relay[0]))
        singles = [faults[0] for faults in slow.all_single(self.relay[0])]
        return [fault for fault in singles
                if fault not in self.now["faults"] and tuple(sorted(self.now["faults"] | {fault})) in known]

    def random_doubled(self, random):
        """Doubled messages of some of the senders."""
        found = []
        for station in self.senders():
            word, places = self.word_of(station), []
            for _ in range(random.choice((0, 0, 1, 1, 2, 4))):
                behind = slow.doublings(word, self.relay[3])
                if behind and len(places) < self.relay[4]:
                    place, word = random.choice(behind)
                    places.append(place)
            if places:
                found.append((station, tuple(places)))
        return tuple(found)


# Logs.

def shown(relay, stand):
    return tuple(relay[1][3][state] for state in stand)


def shows_from(relay, faults, moment, stand, log):
    """All stands at which a run from a stand can end that shows a log, by all rows of messages read or not."""
    if shown(relay, stand) != log[0]:
        return set()
    if len(log) == 1:
        return {stand}
    later = slow_relays.next_moment(relay, moment)
    found = set()
    for lot in slow_relays.unread_lots(relay, faults, moment, stand):
        found |= shows_from(relay, faults, later, slow_relays.step(relay, faults, moment, stand, lot), log[1:])
    return found


def begin_stands(relay, faults, log):
    return tuple(stand for stand in slow_relays.stands(relay) if shows_from(relay, faults, 0, stand, log))


def shown_next(relay, faults, log):
    moment = slow_plans.later(relay[5], 0, len(log) - 1)
    found = set()
    for stand in slow_relays.stands(relay):
        for end in shows_from(relay, faults, 0, stand, log):
            found |= {shown(relay, later) for later in slow_relays.laters(relay, faults, moment, end)}
    return tuple(sorted(found))


def first_false(relay, faults, log):
    for number in range(len(log)):
        if not begin_stands(relay, faults, log[:number + 1]):
            return number
    return None


def all_shown(relay):
    """All that can be shown of a relay, whether it fits anything or not."""
    return list(product(sorted(set(relay[1][3])), repeat=2 ** relay[0][0]))
