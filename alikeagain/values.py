"""What the other files ask of any values, whatever these are."""


def is_whole(value, least, most):
    """Whether a value is an integer from least to most."""
    # True and False are ints of Python's, but no integers here.
    if isinstance(value, bool) or not isinstance(value, int):
        return False
    return least <= value <= most


def is_tuple(value, least, most):
    """Whether a value is a tuple of at least and at most so many things."""
    return isinstance(value, tuple) and least <= len(value) <= most


def is_series(value, least, most):
    """Whether a value is a list or tuple of at least and at most so many things."""
    return isinstance(value, (list, tuple)) and least <= len(value) <= most


def is_headed(value, word, many):
    """Whether a value is a tuple of so many things, the word being the first one."""
    return is_tuple(value, many, many) and isinstance(value[0], str) and value[0] == word


def are_wholes(value, least, most):
    """Whether a tuple has integers from least to most alone."""
    return all([is_whole(item, least, most) for item in value])


def ascends(values):
    """Whether each of some things that can be ordered is greater than the one ahead of it."""
    return all([values[at] < values[at + 1] for at in range(len(values) - 1)])


def is_lot(value, most):
    """Whether a value is an ascending tuple of numbers from 0 to most."""
    return isinstance(value, tuple) and are_wholes(value, 0, most) and ascends(value)


def power(base, exponent):
    """The base to the power of the exponent, which is 0 or more."""
    total = 1
    for _ in range(exponent):
        total *= base
    return total
