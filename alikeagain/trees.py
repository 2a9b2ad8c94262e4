"""Trees of words: tuples of a word and what it wants, some of this trees again.

What a word wants, its shape, is told by a tuple of words: "tree" for a tree, others for what is none.
"""


def shape_of(shapes, word):
    """What a word wants, by pairs of a word and this, or None if it is none of these words."""
    for known, shape in shapes:
        if known == word:
            return shape
    return None


def tree_places(shape):
    """The places, in a tuple of a word and what it wants, at which trees stand."""
    return [at + 1 for at, part in enumerate(shape) if part == "tree"]


def other_places(shape):
    """The places, in a tuple of a word and what it wants, at which other things than trees stand."""
    return [at + 1 for at, part in enumerate(shape) if part != "tree"]


def trees_in(shapes, tree):
    """The list of the pairs of the place and the tree of those that stand in a tree itself."""
    return [(at, tree[at]) for at in tree_places(shape_of(shapes, tree[0]))]


def is_shaped(shapes, value):
    """Whether a value is a tuple of one of these words and as many things as it wants."""
    if not isinstance(value, tuple) or not value or not isinstance(value[0], str):
        return False
    shape = shape_of(shapes, value[0])
    return shape is not None and len(value) == len(shape) + 1


def first_wrong(shapes, most, deepest, is_told, tree):
    """The path to the first part of a tree that is none, and whether it is one too many or too deep; or None."""
    waiting = [((), tree)]
    many = 0
    while waiting:
        path, part = waiting.pop()
        many += 1
        if many > most or len(path) > deepest:
            return path, True
        if not is_shaped(shapes, part) or not is_told(part):
            return path, False
        # What was put here last comes next, with all that stands in it.
        waiting.extend([((*path, at), inner) for at, inner in trees_in(shapes, part)][::-1])
    return None
