"""Reading: as which text of a book a word is read."""

import unittest
from random import Random

from alikeagain.reading import heard_of, is_sure, read, sure_numbers, unread_word

from tests import slow
from tests.letter_samples import BOOK, params, some_book
from tests.refusals import Refusals


class TestReading(Refusals, unittest.TestCase):
    def test_refusals(self):
        self.all_refusals(heard_of, params("book", "size", "times", "word"))
        self.all_refusals(read, params("book", "size", "times", "word"))
        self.all_refusals(is_sure, params("book", "size", "times", "number"))
        self.all_refusals(unread_word, params("book", "size", "times", "number"))
        self.all_refusals(sure_numbers, params("book", "size", "times"))

    def test_by_hand(self):
        self.assertEqual(heard_of(BOOK, 2, 1, "ababab"), (0, 1))
        self.assertEqual(heard_of(BOOK, 2, 2, "ababab"), (0, 1, 2))
        self.assertEqual(heard_of(BOOK, 2, 0, "ababab"), (1,))
        self.assertEqual(heard_of(BOOK, 2, 4, "aba"), ())
        self.assertIsNone(read(BOOK, 2, 1, "ababab"))
        self.assertEqual(read(BOOK, 2, 0, "ababab"), 1)
        self.assertIsNone(read(BOOK, 2, 4, "f" * 40))
        self.assertEqual(read(BOOK, 2, 4, "a"), 4)
        self.assertEqual(read(BOOK, 2, 1, "caca" + "b"), 3)
        self.assertIs(is_sure(BOOK, 2, 1, 3), True)
        self.assertIs(is_sure(BOOK, 2, 1, 2), False)
        self.assertEqual(sure_numbers(BOOK, 2, 1), (3, 4))
        self.assertEqual(sure_numbers(BOOK, 2, 0), (0, 1, 2, 3, 4))
        self.assertEqual(unread_word(BOOK, 2, 1, 2), "abab")
        self.assertEqual(unread_word(BOOK, 2, 1, 1), "ababab")
        self.assertIsNone(unread_word(BOOK, 2, 4, 3))
        self.assertEqual(unread_word(("aab", "abb"), 1, 1, 0), "aabb")
        self.assertIsNone(unread_word(("a",), 1, 4, 0))
        self.assertEqual(read(("a" * 24,), 4, 4, "a" * 40), 0)

    def test_what_all_doublings_tell(self):
        random = Random(41)
        for _ in range(60):
            size = random.randint(1, 4)
            book = some_book(random, size)
            for times in range(4 if size > 1 else 3):
                heard = [slow.copies(text, size, times) for text in book]
                words = sorted({word for row in heard for word in row})
                words = random.sample(words, min(len(words), 60)) + ["abcdef", "f" * 40]
                for word in words:
                    numbers = tuple(number for number, row in enumerate(heard) if word in row)
                    self.assertEqual(heard_of(book, size, times, word), numbers)
                    expected = numbers[0] if len(numbers) == 1 else None
                    self.assertEqual(read(book, size, times, word), expected)
                self.check_numbers(book, size, times, heard)

    def check_numbers(self, book, size, times, heard):
        sure = []
        for number, row in enumerate(heard):
            unread = [word for word in row if sum(word in other for other in heard) > 1]
            told = unread_word(book, size, times, number)
            self.assertIs(is_sure(book, size, times, number), not unread)
            if unread:
                self.assertIn(told, unread)
                self.assertEqual(len(told), min(map(len, unread)))
            else:
                self.assertIsNone(told)
                sure.append(number)
        self.assertEqual(sure_numbers(book, size, times), tuple(sure))


if __name__ == "__main__":
    unittest.main()
