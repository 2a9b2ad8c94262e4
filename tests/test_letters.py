"""Texts and words: doublings, LEAD, TURNS, STAYS, ROOT, EXTRAS."""

import unittest
from math import comb

from alikeagain.errors import BadNumber, TooGreat
from alikeagain.letters import copied, copies_from, extras, heard_count, heard_words, lead, need_size, need_text
from alikeagain.letters import need_times, need_word, places_from, root, stays, turns

from tests import slow
from tests.letter_samples import params, some_texts
from tests.refusals import NO_NUMBERS, Refusals, each

ALL_SHORT = [text for length in range(1, 7) for text in slow.texts(3, length)]
TEXTS = some_texts(21, 60) + ["a", "aa", "aaaa", "aaaaa", "abcdef", "fedcba", "abababab", "abcabcab", "f", "fa", "af"]


class TestLetters(Refusals, unittest.TestCase):
    def test_refusals(self):
        for function, names in (
            (need_text, ("text",)), (need_word, ("word",)), (need_size, ("size",)), (need_times, ("times",)),
            (lead, ("word", "size")), (turns, ("word", "size")), (stays, ("word", "size")), (root, ("word", "size")),
            (extras, ("word", "size")), (copies_from, ("word", "text", "size")),
            (places_from, ("word", "text", "size")), (heard_count, ("text", "size", "times")),
            (heard_words, ("text", "size", "times")),
        ):
            self.all_refusals(function, params(*names))
        place = ("place", 4, each(NO_NUMBERS + (-1, 5, 6, 10 ** 999), BadNumber, "value"))
        self.all_refusals(copied, params("word", "size") + [place])

    def test_what_is_told_itself(self):
        for word in ("a", "f", "abcdef", "a" * 24, "abcdef" * 4):
            self.assertIs(need_text(word), word)
            self.assertIs(need_word(word), word)
        for word in ("a" * 25, "ab" * 20):
            self.assertIs(need_word(word), word)
        self.assertEqual([need_size(size) for size in (1, 2, 3, 4)], [1, 2, 3, 4])
        self.assertEqual([need_times(times) for times in (0, 1, 2, 3, 4)], [0, 1, 2, 3, 4])

    def test_copied(self):
        self.assertEqual(copied("abc", 2, 0), "ababc")
        self.assertEqual(copied("abc", 2, 1), "abcbc")
        self.assertEqual(copied("abc", 3, 0), "abcabc")
        for word in TEXTS:
            for size in (1, 2, 3, 4):
                for place, expected in slow.doublings(word, size):
                    self.assertEqual(copied(word, size, place), expected)

    def test_places_there_are_none_of(self):
        for word, size, place in (("abc", 4, 0), ("abc", 4, -1), ("abc", 3, 1), ("abc", 2, 2), ("a", 2, 0), ("a", 1, 1)):
            self.refused(copied, (word, size, place), BadNumber, value=place)

    def test_copied_too_long(self):
        for size in (1, 2, 3, 4):
            self.assertEqual(len(copied("a" * (40 - size), size, 0)), 40)
            self.refused(copied, ("a" * (41 - size), size, 0), TooGreat, most=40)
            self.refused(copied, ("a" * 40, size, 40 - size), TooGreat, most=40)
            self.refused(copied, ("a" * 40, size, 41 - size), BadNumber, value=41 - size)

    def test_parts_by_hand(self):
        self.assertEqual(lead("abc", 2), "ab")
        self.assertEqual(lead("a", 2), "a")
        self.assertEqual(lead("abcd", 4), "abcd")
        self.assertEqual(turns("abc", 2), (2,))
        self.assertEqual(turns("caf", 1), (4, 5))
        self.assertEqual(turns("abab", 2), ())
        self.assertEqual(turns("a", 2), ())
        self.assertEqual(stays("abcacb", 2), (0, 0, 1, 0))
        self.assertEqual(stays("aab", 1), (1, 0))
        self.assertEqual(stays("ababa", 2), (3,))
        self.assertEqual(stays("ab", 2), (0,))
        self.assertEqual(stays("a", 2), ())
        self.assertEqual(root("ababa", 2), "aba")
        self.assertEqual(root("aabbbc", 1), "abc")
        self.assertEqual(root("a", 4), "a")
        self.assertEqual(extras("ababa", 2), (1,))
        self.assertEqual(extras("aabbbc", 1), (1, 2, 0))
        self.assertEqual(extras("abc", 4), ())
        self.assertEqual(extras("abcd", 4), (0,))

    def test_parts_tell_the_word(self):
        for word in TEXTS + ALL_SHORT:
            for size in (1, 2, 3, 4):
                row, steps = stays(word, size), turns(word, size)
                if len(word) < size:
                    self.assertEqual((lead(word, size), steps, row, extras(word, size)), (word, (), (), ()))
                    continue
                self.assertEqual(len(row), len(steps) + 1)
                signs = ["abcdef".index(sign) for sign in lead(word, size)]
                self.assertEqual(len(signs), size)
                for number, count in enumerate(row):
                    for _ in range(count):
                        signs.append(signs[-size])
                    if number < len(steps):
                        self.assertIn(steps[number], (1, 2, 3, 4, 5))
                        signs.append((signs[-size] + steps[number]) % 6)
                self.assertEqual("".join("abcdef"[sign] for sign in signs), word)

    def test_root_is_what_is_left(self):
        for word in TEXTS + ALL_SHORT + ["abc" * 13, "a" * 40]:
            for size in (1, 2, 3, 4):
                self.assertEqual(root(word, size), slow.root(word, size))
                self.assertEqual(extras(word, size), slow.stays_extras(word, size))

    def test_heard_words_are_those_of_all_doublings(self):
        for text in TEXTS + ["ab", "abc", "abcd", "abcde"]:
            for size in (1, 2, 3, 4):
                for times in (0, 1, 2, 3):
                    expected = slow.copies(text, size, times)
                    self.assertEqual(heard_count(text, size, times), len(expected))
                    self.assertEqual(heard_words(text, size, times), tuple(sorted(expected)))
                    for word, number in expected.items():
                        self.assertEqual(copies_from(word, text, size), number)

    def test_four_times(self):
        for text in ("a", "ab", "abc", "aab", "ababa", "abcdab"):
            for size in (1, 2, 3, 4):
                expected = slow.copies(text, size, 4)
                self.assertEqual(heard_count(text, size, 4), len(expected))
                self.assertEqual(heard_words(text, size, 4), tuple(sorted(expected)))

    def test_copies_between_all_short_strings(self):
        for size in (1, 2, 3):
            texts = [text for text in ALL_SHORT if len(text) < 4 or text < "b"]
            for text in texts:
                expected = slow.copies(text, size, 6 // size)
                for word in ALL_SHORT:
                    self.assertEqual(copies_from(word, text, size), expected.get(word))

    def test_places_lead_from_text_to_word(self):
        for text in TEXTS:
            for size in (1, 2, 3):
                for word, number in list(slow.copies(text, size, 3).items())[::7]:
                    places = places_from(word, text, size)
                    self.assertEqual(len(places), number)
                    self.assertEqual(slow.end_of(text, size, 9, places), word)
        self.assertEqual(places_from("a" * 40, "a" * 4, 4).__len__(), 9)
        self.assertEqual(slow.end_of("aaaa", 4, 9, places_from("a" * 40, "aaaa", 4)), "a" * 40)

    def test_no_places(self):
        self.assertIsNone(places_from("ab", "abab", 2))
        self.assertIsNone(copies_from("ab", "abab", 2))
        self.assertIsNone(places_from("abb", "aab", 1))
        self.assertIsNone(copies_from("ababa", "abab", 2))
        self.assertIsNone(copies_from("aa", "a", 2))
        self.assertEqual(places_from("a", "a", 2), ())
        self.assertEqual(places_from("abab", "abab", 2), ())
        self.assertEqual(copies_from("abab", "abab", 2), 0)
        self.assertEqual(copies_from("abcabcabc", "abc", 3), 2)

    def test_heard_count_of_long_texts(self):
        self.assertEqual(heard_count("ab" * 12, 1, 4), sum(comb(number + 23, number) for number in range(5)))
        self.assertEqual(heard_count("ab" * 12, 2, 4), 5)
        self.assertEqual(heard_count("a", 2, 4), 1)
        self.assertEqual(heard_words("abc", 4, 4), ("abc",))
        self.assertEqual(heard_words("a" * 24, 4, 4)[-1], "a" * 40)

    def test_too_many_words(self):
        self.refused(heard_words, ("ab" * 12, 1, 4), TooGreat, most=500)
        # Of R EXTRAS there are C(R + 4, 4) words by at most four doublings.
        self.assertEqual(len(heard_words("ababab", 1, 4)), 210)
        self.assertEqual(len(heard_words("abababab", 1, 4)), 495)
        self.refused(heard_words, ("ababababa", 1, 4), TooGreat, most=500)
        self.assertEqual(len(heard_words("ab" * 12, 1, 2)), 325)


if __name__ == "__main__":
    unittest.main()
