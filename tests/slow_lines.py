"""Which word of a text cannot stand there, found by a list of what is still wanted, word by word."""

import re

NUMBER = r"0|[1-9][0-9]{0,2}"
# What a word of a tree wants behind it; what is no tree is told by what its word has to match.
KINDS = {"top": [NUMBER], "flags": [NUMBER], "pair": ["kind", "kind"], "without": [NUMBER, "kind"],
         "reads": ["many", "kind"]}
RINGS = {"round": ["settings", "senders"], "all": ["settings"], "then": ["ring", "ring"], "times": [NUMBER, "ring"],
         "turn": [NUMBER, "ring"], "but": [NUMBER, "ring"], "both": ["ring", "ring"]}
SAYINGS = {"alike": [], "same": [NUMBER, NUMBER], "has": [NUMBER, NUMBER], "reads": [NUMBER, NUMBER], "moment": [NUMBER],
           "not": ["saying"], "and": ["saying", "saying"], "or": ["saying", "saying"]}
WISHES = {"always": ["said"], "later": ["said"], "until": ["said", "said"], "again": ["said"], "last": ["said"],
          "within": [NUMBER, "said"], "from": [NUMBER, "said"]}
VERDICTS = {"joins": [], "clear": [], "delay": [NUMBER], "apart": [], "settles": [NUMBER], "never": [],
            "hears": [NUMBER] * 3, "nothing": [NUMBER] * 2, "heard": ["[a-f]{1,40}", NUMBER], "unread": ["[a-f]{1,40}"],
            "wish": ["wish"]}
TREES = {"kind": KINDS, "ring": RINGS, "saying": SAYINGS, "wish": WISHES, "verdict": VERDICTS}
FORMS = {"settings": r"[01]{1,4}(\.[01]{1,4}){0,3}", "senders": r"[0-7]{1,8}|none", "many": "[1-8]", "bits": "[1-3]",
         "wirings": "[0-3]", "text": "[a-f]{1,24}"}
MOST = {"kind": 8, "ring": 12, "saying": 12}


class NoForm(Exception):
    """A word, or a line, that cannot stand there."""


def need_line(lines, at, wanted):
    """Raise NoForm for the first word of a line that is not wanted there; what is wanted is told in a list."""
    if at >= len(lines):
        raise NoForm(len(lines), 0)
    words = lines[at].split(" ")
    wanted = list(wanted)
    left = dict(MOST)
    for number, word in enumerate(words):
        if not wanted:
            raise NoForm(at, number)
        want = wanted.pop(0)
        if want == "said":
            # A saying by itself counts its words.
            want = "saying"
            left["saying"] = MOST["saying"]
        if want == "ahead":
            if word == "none":
                continue
            want = "ring"
        if want == "texts":
            if not re.fullmatch(FORMS["text"], word) or number > 8:
                raise NoForm(at, number)
            wanted = ["texts"] if number < len(words) - 1 else []
        elif want in TREES:
            if word not in TREES[want] or left.get(want) == 0:
                raise NoForm(at, number)
            if want in left:
                left[want] -= 1
            wanted = TREES[want][word] + wanted
        else:
            if not re.fullmatch(FORMS.get(want, want), word):
                raise NoForm(at, number)
            if want == "many":
                wanted = [NUMBER] * int(word) + wanted
    if wanted:
        raise NoForm(at, len(words))
    return words


def need_net(lines):
    """Raise NoForm for the first word of a net that cannot stand there; how many lines it has."""
    words = need_line(lines, 0, ["net", "bits", "wirings"])
    for number in range(int(words[2])):
        need_line(lines, number + 1, [NUMBER] * 2 ** int(words[1]))
    return int(words[2]) + 1


def need_sheet(lines, is_bare):
    at = need_net(lines)
    for wanted in (["kind", "kind"], ["book", "texts"], ["copies", NUMBER, NUMBER], ["ahead", "ahead"], ["ring", "ring"]):
        # The first word is a word by itself, the same one as what follows it.
        need_line(lines, at, ["(?:" + wanted[0] + ")", *wanted[1:]])
        at += 1
    while at < len(lines):
        if is_bare:
            raise NoForm(at, 0)
        need_line(lines, at, ["verdict"])
        at += 1


def need_one(lines, wanted):
    need_line(lines, 0, [wanted])
    if len(lines) > 1:
        raise NoForm(1, 0)


def need_net_alone(lines):
    at = need_net(lines)
    if at < len(lines):
        raise NoForm(at, 0)


def wrong_word(sort, text):
    """The line and the word that cannot stand there, or None."""
    lines = text.split("\n")
    try:
        if sort == "net":
            need_net_alone(lines)
        elif sort in ("sheet", "desk"):
            need_sheet(lines, sort == "desk")
        else:
            need_one(lines, sort)
    except NoForm as error:
        return error.args
    return None


POOL = ("", "0", "1", "2", "3", "7", "8", "9", "10", "61", "100", "999", "1000", "00", "01", "-1", "+1", "1.0", "net", "kind", "book",
        "copies", "ahead", "ring", "none", "top", "flags", "pair", "without", "reads", "round", "all", "then", "times", "turn",
        "but", "both", "alike", "same", "has", "moment", "not", "and", "or", "always", "later", "until", "again", "last", "within",
        "from", "joins", "clear", "delay", "apart", "settles", "never", "hears", "nothing", "heard", "unread", "wish", "ab", "abab",
        "a" * 24, "a" * 25, "a" * 40, "a" * 41, "ag", "01", "012", "0.0", "00.11", "00.11.", ".00", "0000.1111", "00.00.00.00",
        "00000", "00.00.00.00.00", "8", "01234567", "012345670", "None", "Top", "TOP", "tops", "\t", "a\t")


def changed(random, text):
    """A text with a word, a space or a line more, less or otherwise."""
    lines = [line.split(" ") for line in text.split("\n")]
    at = random.randrange(len(lines))
    words = lines[at]
    place = random.randrange(len(words) + 1)
    deed = random.choice(("word", "word", "word", "less", "more", "more", "line less", "line more", "twice", "turn", "cut"))
    if deed == "word" and place < len(words):
        words[place] = random.choice(POOL)
    elif deed == "less" and place < len(words):
        del words[place]
    elif deed == "more":
        words.insert(place, random.choice(POOL))
    elif deed == "line less":
        del lines[at]
    elif deed == "line more":
        lines.insert(random.randrange(len(lines) + 1), random.choice(([""], ["joins"], ["0", "1"], [random.choice(POOL)])))
    elif deed == "twice":
        lines.insert(at, list(words))
    elif deed == "turn":
        other = random.randrange(len(lines))
        lines[at], lines[other] = lines[other], lines[at]
    elif deed == "cut":
        del words[place:]
    return "\n".join(" ".join(row) for row in lines)


def text_of_net(net):
    rows = [f"net {net[0]} {len(net[1])}"]
    return "\n".join(rows + [" ".join(map(str, order)) for order in net[1]])


def text_of(term):
    """The text of a term, a saying or a wish: its word, what is neither a term nor a saying, then the others."""
    rest = []
    trees = []
    for number, part in enumerate(term[1:]):
        if isinstance(part, tuple) and part and isinstance(part[0], str):
            trees.append(text_of(part))
        elif isinstance(part, int):
            rest.append(str(part))
        elif term[0] == "reads":
            rest += [str(len(part)), *map(str, part)]
        elif number == 0:
            rest.append(".".join("".join(map(str, row)) for row in part))
        else:
            rest.append("".join(map(str, part)) or "none")
    return " ".join([term[0], *rest, *trees])
