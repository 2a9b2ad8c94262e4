"""Helpers of the tests: how arguments are refused, and papers with something otherwise."""


class Agrees:
    """Something of another kind that says it is equal to whatever it is held against."""

    def __eq__(self, other):
        return True

    def __hash__(self):
        return 0

    def __repr__(self):
        return "Agrees()"


# None of these is an integer, a string or a tuple.
ODD = (None, True, False, [], [0], [0, 1], {}, {0: 1}, {0}, frozenset(), b"", b"ab", Agrees())
NO_NUMBERS = ODD + ("", "0", "a", (), (0,), (1, 1))
NO_TUPLES = ODD + ("", "ab", "broken", 0, 1, -1, 10 ** 999)


def fields_of(error):
    """What an error has been made with, by name."""
    return dict(vars(error))


def agree(one, other):
    """Whether two values are the same, True being no 1."""
    return repr(one) == repr(other) and type(one) is type(other)


class Refusals:
    """What a TestCase can ask besides: which error a call raises."""

    def raised(self, function, args, named=None):
        try:
            function(*args, **(named or {}))
        except Exception as error:
            return error
        return None

    def refused(self, function, args, error_class, **fields):
        """Assert that a call raises just this error, with these fields."""
        before = repr(args)
        error = self.raised(function, args)
        told = f"{function.__name__}{args!r:.300}"
        self.assertIsNotNone(error, told)
        self.assertIs(type(error), error_class, f"{told}: {error!r}")
        self.assertTrue(agree(fields_of(error), fields), f"{told}: {fields_of(error)!r:.200}, not {fields!r:.200}")
        self.assertEqual(repr(args), before)

    def same_call(self, function, names, args):
        """Assert that a call tells the same by position, by name, and once more."""
        before = repr(args)
        first = function(*args)
        self.assertTrue(agree(first, function(**dict(zip(names, args)))), function.__name__)
        self.assertTrue(agree(first, function(*args)), function.__name__)
        self.assertEqual(repr(args), before)
        return first

    def all_refusals(self, function, params):
        """Assert how each argument of a function is refused.

        params is a list of triples: name, a good value, a list of triples (wrong value, error class, fields).
        """
        names = [name for name, _, _ in params]
        good = [value for _, value, _ in params]
        self.same_call(function, names, tuple(good))
        for at, (_, _, wrongs) in enumerate(params):
            for value, error_class, fields in wrongs:
                args = good[:at] + [value] + good[at + 1:]
                self.refused(function, tuple(args), error_class, **fields)
                error = self.raised(function, (), dict(zip(names, args)))
                self.assertIs(type(error), error_class)
                self.assertTrue(agree(fields_of(error), fields))
                self.two_refusals(function, params, at, args, error_class, fields)

    def two_refusals(self, function, params, at, args, error_class, fields):
        """Assert that of two wrong arguments the first one is refused."""
        for later in range(at + 1, len(params)):
            for value, _, _ in params[later][2][:3]:
                both = args[:later] + [value] + args[later + 1:]
                self.refused(function, tuple(both), error_class, **fields)


def each(values, error_class, field):
    """Wrong values that are all refused with themselves in the field."""
    return [(value, error_class, {field: value}) for value in values]


def at_place(values, error_class, place, field="place"):
    """Wrong values that are all refused with the same place in the field."""
    return [(value, error_class, {field: place}) for value in values]


def otherwise(value):
    """All values that come of a nested tuple by one change, at any depth."""
    found = [None, [value], (value,)]
    if isinstance(value, tuple):
        found += [list(value), (*value, 0), (*value, ()), value + value[-1:], value[:-1], value[1:]]
        found += [value[:at] + value[at + 1:at + 2] + value[at:at + 1] + value[at + 2:] for at in range(len(value) - 1)]
        for at, item in enumerate(value):
            found += [(*value[:at], other, *value[at + 1:]) for other in otherwise(item)]
    elif isinstance(value, bool) or value is None:
        found += [0, 1, "", ()]
    elif isinstance(value, int):
        found += [value + 1, value - 1, value == 1, str(value), ()]
    elif isinstance(value, str):
        found += [value + "a", value[:-1], value[::-1], 0, ()]
    return [other for other in found if not agree(other, value)]
