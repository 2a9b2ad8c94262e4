"""Lines of words: the texts of nets, terms, sayings and wishes, and what is read of them."""

from alikeagain.errors import BadLines
from alikeagain.letters import LONGEST_WORD, is_letters
from alikeagain.nets import STATIONS, need_net
from alikeagain.relays import need_relay
from alikeagain.sayings import MOST_SAID, SAYING_SHAPES, need_saying
from alikeagain.terms import KIND_SHAPES, MOST_KIND_WORDS, MOST_RING_WORDS, MOST_STATES, RING_SHAPES
from alikeagain.terms import need_kind_term, need_ring_term
from alikeagain.trees import other_places, shape_of, tree_places
from alikeagain.wishes import WISH_SHAPES, need_wish, need_wished

NOBODY = "none"
MOST_FIGURES = 3
MOST_ROWS = 4
MOST_IN_ROW = 4
MOST_SENDERS = 8
MOST_WIRINGS = 3


def figures(values):
    """The figures of some numbers from 0 to 9, one behind the other."""
    return "".join([str(value) for value in values])


def part_words(part, value):
    """The words of what stands in a tree besides trees."""
    if part == "row":
        return [str(number) for number in (len(value), *value)]
    if part == "settings":
        return [".".join([figures(row) for row in value])]
    if part == "senders":
        return [figures(value) or NOBODY]
    return [str(value)]


def tree_words(shapes, tree, inner_shapes):
    """The words of a tree: its word, then its integers and so on, then the trees in it, by their own shapes."""
    shape = shape_of(shapes, tree[0])
    words = [tree[0]]
    for place in other_places(shape):
        words.extend(part_words(shape[place - 1], tree[place]))
    for place in tree_places(shape):
        words.extend(tree_words(inner_shapes, tree[place], inner_shapes))
    return words


def line_of(words):
    """The line of some words."""
    return " ".join(words)


def net_text(net):
    """The text of a NET."""
    bits, wirings = need_net(net)
    rows = [("net", str(bits), str(len(wirings)))] + [tuple([str(wire) for wire in order]) for order in wirings]
    return "\n".join([line_of(row) for row in rows])


def kind_text(kind_term):
    """The text of a KIND TERM."""
    need_kind_term(kind_term)
    return line_of(tree_words(KIND_SHAPES, kind_term, KIND_SHAPES))


def ring_text(net, ring_term):
    """The text of a RING TERM."""
    need_ring_term(net, ring_term)
    return line_of(tree_words(RING_SHAPES, ring_term, RING_SHAPES))


def saying_text(relay, saying):
    """The text of a SAYING."""
    need_saying(relay, saying)
    return line_of(tree_words(SAYING_SHAPES, saying, SAYING_SHAPES))


def wish_text(relay, wish):
    """The text of a WISH."""
    need_wish(relay, wish)
    return line_of(tree_words(WISH_SHAPES, wish, SAYING_SHAPES))


def lines_of(text):
    """The list of the lines of a text, each a pair of its number and its words; what is no string is refused."""
    if not isinstance(text, str):
        raise BadLines(None, None)
    return [(number, line.split(" ")) for number, line in enumerate(text.split("\n"))]


def line_at(lines, number):
    """The line with a number, refused if there is none."""
    if number >= len(lines):
        raise BadLines(len(lines), 0)
    return lines[number]


def need_no_line(lines, number):
    """Nothing; a line with a number, and all behind it, is one too many."""
    if number < len(lines):
        raise BadLines(number, 0)


def word_at(line, at):
    """The word at a place of a line, refused if it lacks one."""
    number, words = line
    if at >= len(words):
        raise BadLines(number, len(words))
    return words[at]


def need_no_word(line, at):
    """Nothing; a word at a place of a line is one too many."""
    number, words = line
    if at < len(words):
        raise BadLines(number, at)


def need_that(is_right, line, at):
    """Nothing; a word that cannot stand at a place of a line is refused."""
    if not is_right:
        raise BadLines(line[0], at)


def are_signs(word, signs, most):
    """Whether a word has one to so many of these signs."""
    return 1 <= len(word) <= most and all([sign in signs for sign in word])


def is_number_word(word):
    """Whether a word is an integer of one to three figures, without needless zeros."""
    return are_signs(word, "0123456789", MOST_FIGURES) and (word == "0" or word[0] != "0")


def number_of(word, least, most):
    """The integer that a word is, or None if it is none from least to most."""
    if not is_number_word(word) or not least <= int(word) <= most:
        return None
    return int(word)


def read_number(line, at, least=0, most=999):
    """The integer at a place of a line."""
    number = number_of(word_at(line, at), least, most)
    need_that(number is not None, line, at)
    return number


def read_word(line, at, word):
    """The place behind this word at a place of a line."""
    need_that(word_at(line, at) == word, line, at)
    return at + 1


def read_numbers(line, at, many):
    """So many integers from a place of a line on, as a tuple."""
    return tuple([read_number(line, at + number) for number in range(many)])


def read_settings(line, at):
    """The SETTINGS at a place of a line, by their form alone."""
    rows = word_at(line, at).split(".")
    need_that(len(rows) <= MOST_ROWS and all([are_signs(row, "01", MOST_IN_ROW) for row in rows]), line, at)
    return tuple([tuple([int(figure) for figure in row]) for row in rows])


def read_senders(line, at):
    """The SENDERS at a place of a line, by their form alone."""
    word = word_at(line, at)
    if word == NOBODY:
        return ()
    need_that(are_signs(word, "01234567", MOST_SENDERS), line, at)
    return tuple([int(figure) for figure in word])


def read_signs(line, at):
    """The signs, as they may come over a wire, at a place of a line."""
    word = word_at(line, at)
    need_that(is_letters(word, LONGEST_WORD), line, at)
    return word


def read_part(line, at, part):
    """What stands at a place of a line besides trees, and the place behind it."""
    if part == "row":
        many = read_number(line, at, 1, MOST_STATES)
        return read_numbers(line, at + 1, many), at + 1 + many
    if part == "settings":
        return read_settings(line, at), at + 1
    if part == "senders":
        return read_senders(line, at), at + 1
    if part == "signs":
        return read_signs(line, at), at + 1
    return read_number(line, at), at + 1


def read_shape(line, at, shapes):
    """The shape of the word at a place of a line, which has to be one of some words."""
    shape = shape_of(shapes, word_at(line, at))
    need_that(shape is not None, line, at)
    return shape


def read_others(line, at, shape):
    """The list of a word and what it wants, without the trees, and the place behind these."""
    found = [word_at(line, at)] + [None] * len(shape)
    at += 1
    for place in other_places(shape):
        found[place], at = read_part(line, at, shape[place - 1])
    return found, at


def read_tree(line, at, shapes, many):
    """A tree of at most so many words at a place of a line, the place behind it, and how many words are left."""
    shape = read_shape(line, at, shapes)
    need_that(many > 0, line, at)
    found, at = read_others(line, at, shape)
    many -= 1
    for place in tree_places(shape):
        found[place], at, many = read_tree(line, at, shapes, many)
    return tuple(found), at, many


def read_wish_at(line, at):
    """The WISH at a place of a line, by its form alone, and the place behind it."""
    shape = read_shape(line, at, WISH_SHAPES)
    found, at = read_others(line, at, shape)
    for place in tree_places(shape):
        found[place], at, _ = read_tree(line, at, SAYING_SHAPES, MOST_SAID)
    return tuple(found), at


def read_kind_at(line, at):
    """The KIND TERM from a place of a line to its end, by its form alone."""
    term, at, _ = read_tree(line, at, KIND_SHAPES, MOST_KIND_WORDS)
    need_no_word(line, at)
    return term


def read_ring_at(line, at):
    """The RING TERM from a place of a line to its end, by its form alone."""
    term, at, _ = read_tree(line, at, RING_SHAPES, MOST_RING_WORDS)
    need_no_word(line, at)
    return term


def read_net_lines(lines):
    """The NET of the first lines, by its form alone, and the number of the line behind it."""
    line = line_at(lines, 0)
    at = read_word(line, 0, "net")
    bits = read_number(line, at, 1, len(STATIONS) - 1)
    many = read_number(line, at + 1, 0, MOST_WIRINGS)
    need_no_word(line, at + 2)
    orders = []
    for number in range(1, many + 1):
        order = line_at(lines, number)
        orders.append(read_numbers(order, 0, STATIONS[bits]))
        need_no_word(order, STATIONS[bits])
    return (bits, tuple(orders)), many + 1


def read_net(text):
    """The NET of a text."""
    lines = lines_of(text)
    net, number = read_net_lines(lines)
    need_no_line(lines, number)
    return need_net(net)


def read_kind(text):
    """The KIND TERM of a text."""
    lines = lines_of(text)
    term = read_kind_at(line_at(lines, 0), 0)
    need_no_line(lines, 1)
    return need_kind_term(term)


def read_ring(net, text):
    """The RING TERM of a text."""
    need_net(net)
    lines = lines_of(text)
    term = read_ring_at(line_at(lines, 0), 0)
    need_no_line(lines, 1)
    return need_ring_term(net, term)


def read_wish(relay, text):
    """The WISH of a text."""
    need_relay(relay)
    lines = lines_of(text)
    line = line_at(lines, 0)
    wish, at = read_wish_at(line, 0)
    need_no_word(line, at)
    need_no_line(lines, 1)
    return need_wished(relay, wish)
