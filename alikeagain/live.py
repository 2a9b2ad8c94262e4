"""A live relay: updates, rounds, faults put in and healed, taken back, tried."""

from alikeagain.errors import BadFaults, BadLetters, BadNumber, BadStation, TooGreat
from alikeagain.faults import are_faults, is_fault
from alikeagain.kinds import coming_of, merge_of
from alikeagain.letters import doubled_at
from alikeagain.nets import is_station
from alikeagain.plans import moment_behind
from alikeagain.ranks import are_all_same
from alikeagain.reading import read_as
from alikeagain.relays import need_spot, relay_hears
from alikeagain.settling import least_settling
from alikeagain.values import ascends, is_tuple, is_whole

MOST_ACTS = 300


def round_at(plan, moment):
    """The round that comes at a moment."""
    return (plan[0] + plan[1])[moment]


def word_behind(word, size, times, places):
    """What doublings at one to so many places make of a word; None if they are none."""
    if not is_tuple(places, 1, times):
        return None
    for place in places:
        if not is_whole(place, 0, len(word) - size):
            return None
        word = doubled_at(word, size, place)
    return word


def texts_at(relay, stand):
    """For each station the text of its state."""
    states = coming_of(relay[1])
    return [relay[2][states.index(state)] for state in stand]


def words_sent(relay, moment, stand, doubled):
    """For each station the word that it would send; None if what is to be doubled cannot be."""
    senders = round_at(relay[5], moment)[1]
    words = texts_at(relay, stand)
    if not isinstance(doubled, tuple) or not all([is_tuple(pair, 2, 2) for pair in doubled]):
        return None
    stations = [station for station, _ in doubled]
    if not all([is_station(relay[0], station) and station in senders for station in stations]) or not ascends(stations):
        return None
    for station, places in doubled:
        words[station] = word_behind(words[station], relay[3], relay[4], places)
    return None if None in words else words


def states_heard(relay, faults, moment, words):
    """For each station the state that it hears, or None, by the words that are sent."""
    kind, book, size, times = relay[1:5]
    states = coming_of(kind)
    found = []
    for sender in relay_hears(relay, faults)[moment]:
        number = None if sender is None else read_as(book, size, times, words[sender])
        found.append(None if number is None else states[number])
    return tuple(found)


def stand_behind(kind, stand, heard):
    """The stand behind hearing these states, or None, all at once."""
    return tuple([own if other is None else merge_of(kind, own, other) for own, other in zip(stand, heard)])


def with_fault(net, faults, fault):
    """Faults with one more; None if there are none such."""
    if not is_fault(net, fault):
        return None
    more = tuple(sorted([*faults, fault]))
    return more if are_faults(net, more) else None


class Kept:
    """How a live relay stood when a block began, and what is kept of the block around it."""

    def __init__(self, now, past, outer):
        self.now = now
        self.past = past
        self.outer = outer


class Trial:
    """A manager behind whose blocks a live relay is as it was when they began."""

    def __init__(self, live):
        self._over = live
        self._kept = None

    def __enter__(self):
        self._kept = self._over._kept_by(self._kept)
        return self._over

    def __exit__(self, *told):
        self._over._now = self._kept.now
        self._over._past = self._kept.past
        self._kept = self._kept.outer


class Live:
    """A relay as it runs, with what can be taken back."""

    def __init__(self, relay, moment, stand):
        need_spot(relay, (), moment, stand)
        self._relay = relay
        # Tuples alone, so that what is kept of them stays as it was.
        self._now = (moment, stand, ())
        self._past = ()

    @property
    def relay(self):
        """The relay."""
        return self._relay

    @property
    def moment(self):
        """The moment, the number of the round that comes next."""
        return self._now[0]

    @property
    def stand(self):
        """The stand."""
        return self._now[1]

    @property
    def faults(self):
        """The faults."""
        return self._now[2]

    def _act(self, later):
        """An act that leads to another moment, stand and faults."""
        if len(self._past) >= MOST_ACTS:
            raise TooGreat(MOST_ACTS)
        self._past = (*self._past, self._now)
        self._now = later

    def update(self, station, number):
        """An update at a station; returns the state then."""
        moment, stand, faults = self._now
        if not is_station(self._relay[0], station):
            raise BadStation(station)
        updates = self._relay[1][1]
        if not is_whole(number, 0, len(updates) - 1):
            raise BadNumber(number)
        state = updates[number][stand[station]]
        self._act((moment, (*stand[:station], state, *stand[station + 1:]), faults))
        return state

    def go(self, doubled=()):
        """The round; returns for each station the state that it heard, or None."""
        moment, stand, faults = self._now
        words = words_sent(self._relay, moment, stand, doubled)
        if words is None:
            raise BadLetters(doubled)
        heard = states_heard(self._relay, faults, moment, words)
        self._act((moment_behind(self._relay[5], moment, 1), stand_behind(self._relay[1], stand, heard), faults))
        return heard

    def put(self, fault):
        """A fault is put in."""
        moment, stand, faults = self._now
        more = with_fault(self._relay[0], faults, fault)
        if more is None:
            raise BadFaults(fault)
        self._act((moment, stand, more))

    def heal(self, fault):
        """A fault is healed."""
        moment, stand, faults = self._now
        if not is_fault(self._relay[0], fault) or fault not in faults:
            raise BadFaults(fault)
        self._act((moment, stand, tuple([one for one in faults if one != fault])))

    def is_alike(self):
        """Whether all states are the same."""
        return are_all_same(self._now[1])

    def settles(self):
        """By how many steps the relay settles by its faults, or None."""
        return least_settling(self._relay, self._now[2])

    def undo(self):
        """The last act is taken back; returns whether there was one."""
        if len(self._past) == 0:
            return False
        self._now = self._past[-1]
        self._past = self._past[:-1]
        return True

    def copy(self):
        """Another live relay that stands as this one, and goes on by itself."""
        other = Live(self._relay, self._now[0], self._now[1])
        other._now = self._now
        other._past = self._past
        return other

    def _kept_by(self, outer):
        """How it stands now, kept beside what is kept of the block around."""
        return Kept(self._now, self._past, outer)

    def trial(self):
        """A manager behind whose blocks all is as it was when they began."""
        return Trial(self)

    def __len__(self):
        return len(self._past)

    def __eq__(self, other):
        return isinstance(other, Live) and self._relay == other._relay and self._now == other._now


def under(manager, deed):
    """What a deed returns of what a manager gives, called in its block."""
    with manager as one:
        return deed(one)
