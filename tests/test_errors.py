"""The errors: their bases, their fields."""

import inspect
import unittest

from alikeagain import errors

FIELDS = {
    "BadNet": ("place",), "BadRound": ("place",), "BadPlan": ("place",), "BadFaults": ("place",),
    "BadHears": ("value",), "BadWants": ("value",), "BadKind": ("place",), "BadLetters": ("value",),
    "BadBook": ("place",), "BadNumber": ("value",), "BadStation": ("value",), "BadStand": ("value",),
    "BadState": ("value",), "BadRelay": ("part",), "BadPaper": ("word",), "BadTest": ("place",),
    "BadSeen": ("place",), "BadSaying": ("path",), "BadWish": ("path",), "BadTerm": ("path",),
    "BadLog": ("place",), "BadLines": ("line", "word"), "TooGreat": ("most",),
}
VALUES = (None, True, 3, "form", (), (1, (2,)), [1], {"a": 1}, b"x")


class TestErrors(unittest.TestCase):
    def test_alike_error_is_made_with_one_text(self):
        error = errors.AlikeError("some text")
        self.assertEqual(errors.AlikeError.__bases__, (ValueError,))
        self.assertEqual(str(error), "some text")

    def test_bases(self):
        for name in FIELDS:
            bases = (OverflowError,) if name == "TooGreat" else (errors.AlikeError,)
            self.assertEqual(getattr(errors, name).__bases__, bases, name)

    def test_fields_by_position_and_by_name(self):
        for name, fields in FIELDS.items():
            made = getattr(errors, name)
            for value in VALUES:
                values = [(value, number) for number in range(len(fields))]
                expected = dict(zip(fields, values))
                self.assertEqual(vars(made(*values)), expected)
                self.assertEqual(vars(made(**expected)), expected)
                with self.assertRaises(made):
                    raise made(*values)

    def test_just_these_fields(self):
        for name, fields in FIELDS.items():
            signature = inspect.signature(getattr(errors, name).__init__)
            self.assertEqual(tuple(signature.parameters), ("self", *fields))
            with self.assertRaises(TypeError):
                getattr(errors, name)()
            with self.assertRaises(TypeError):
                getattr(errors, name)(*range(len(fields) + 1))

    def test_all_classes_are_listed(self):
        found = {name for name, item in vars(errors).items() if inspect.isclass(item)}
        self.assertEqual(found, {"AlikeError", *FIELDS})
        for name in found:
            self.assertEqual(getattr(errors, name).__module__, "alikeagain.errors")


if __name__ == "__main__":
    unittest.main()
