"""Books: mixed up, clear, safe, papers, and the greatest safe books."""

import unittest
from random import Random

from alikeagain.books import book_paper, check_book, clear_times, is_clear, is_safe, mixed_up, need_book, root_count
from alikeagain.books import safe_book, safe_length, safe_most
from alikeagain.errors import BadPaper

from tests import slow
from tests.letter_samples import BOOK, params, some_book
from tests.refusals import NO_TUPLES, Refusals, at_place, otherwise

CLEAR = ("clear", (("ab", (1,)), ("c", ())))
NOT_FORMS = NO_TUPLES + (
    (), ("clear",), ("clear", (), ()), ["clear", ()], ("mixed", ()), ("mixed", 0, 1, ()), ("mixed", 0, 1, (), (), ()),
    ("clear", 0, 1, (), ()), ["mixed", 0, 1, (), ()], (b"clear", ()), ("Clear", ()), ("mixe", 0, 1, (), ()), ((), ()),
) + tuple((value, ()) for value in NO_TUPLES) + tuple((value, 0, 1, (), ()) for value in NO_TUPLES)


class TestBooks(Refusals, unittest.TestCase):
    def test_refusals(self):
        self.all_refusals(need_book, params("book"))
        self.all_refusals(clear_times, params("book", "size"))
        self.all_refusals(is_safe, params("book", "size"))
        for function in (mixed_up, is_clear, book_paper):
            self.all_refusals(function, params("book", "size", "times"))
        self.all_refusals(root_count, params("signs", "length", "size"))
        self.all_refusals(safe_most, params("signs", "length", "size"))
        self.all_refusals(safe_length, params("many", "signs", "size"))
        self.all_refusals(safe_book, params("many", "signs", "size"))
        wrongs = at_place(NOT_FORMS, BadPaper, "form", "word")
        wrongs += at_place([("clear", value) for value in NO_TUPLES], BadPaper, "clear", "word")
        wrongs += at_place([("mixed", value, 1, (), ()) for value in NO_TUPLES], BadPaper, "mixed", "word")
        self.all_refusals(check_book, params("book", "size", "times") + [("paper", ("mixed", 0, 1, (0,), ()), wrongs)])

    def test_books_are_told_themselves(self):
        for book in (("a",), ("a" * 24, "b" * 24), tuple("abcdef") + ("ab", "ba"), BOOK):
            self.assertIs(need_book(book), book)

    def test_by_hand(self):
        self.assertEqual(mixed_up(BOOK, 2, 0), ())
        self.assertEqual(mixed_up(BOOK, 2, 1), ((0, 1), (0, 2)))
        self.assertEqual(mixed_up(BOOK, 2, 2), ((0, 1), (0, 2), (1, 2)))
        self.assertIs(is_clear(BOOK, 2, 0), True)
        self.assertIs(is_clear(BOOK, 2, 1), False)
        self.assertEqual(clear_times(BOOK, 2), 0)
        self.assertEqual(clear_times(("ab", "ababab"), 2), 1)
        self.assertIsNone(clear_times(("ab", "ababa"), 2))
        self.assertIsNone(clear_times(("a",), 1))
        self.assertEqual(clear_times(("a", "a" * 24), 1), 22)
        self.assertEqual(clear_times(("aab", "abb"), 1), 0)
        self.assertEqual(clear_times(("aaab", "abbb"), 1), 1)
        self.assertEqual(mixed_up(("aab", "abb"), 1, 1), ((0, 1),))
        self.assertIs(is_safe(("ab", "abab"), 2), False)
        self.assertIs(is_safe(("ab", "aba"), 2), True)
        # Shorter than SIZE, all texts stay by themselves.
        self.assertEqual(mixed_up(("a", "aa", "aaa"), 4, 4), ())
        self.assertIs(is_safe(("a", "aa", "aaa"), 4), True)

    def test_what_all_doublings_tell(self):
        random = Random(31)
        for _ in range(120):
            size = random.randint(1, 4)
            book = some_book(random, size)
            for times in range(5 if size > 1 else 3):
                expected = slow.mixed_up(book, size, times)
                self.assertEqual(mixed_up(book, size, times), expected)
                self.assertIs(is_clear(book, size, times), not expected)
            roots = [slow.root(text, size) for text in book]
            self.assertIs(is_safe(book, size), len(set(roots)) == len(roots))

    def test_clear_times_by_all_doublings(self):
        random = Random(32)
        for _ in range(60):
            size = random.randint(2, 4)
            book = some_book(random, size)
            times = clear_times(book, size)
            if times is None:
                self.assertIs(is_safe(book, size), True)
                self.assertEqual(slow.mixed_up(book, size, 5), ())
            else:
                self.assertIs(is_safe(book, size), False)
                self.assertEqual(slow.mixed_up(book, size, times), ())
                self.assertNotEqual(slow.mixed_up(book, size, times + 1), ())

    def test_papers_hold(self):
        random = Random(33)
        words = {"clear": 0, "mixed": 0}
        for _ in range(150):
            size = random.randint(1, 4)
            book = some_book(random, size)
            times = random.randint(0, 4 if size > 1 else 2)
            paper = book_paper(book, size, times)
            word = "mixed" if slow.mixed_up(book, size, times) else "clear"
            self.assertEqual(paper[0], word)
            self.assertEqual(check_book(book, size, times, paper), word)
            self.assertEqual(slow.paper_on_book(book, size, times, paper), word)
            words[word] += 1
        self.assertGreater(min(words.values()), 20)

    def test_papers_with_something_otherwise(self):
        random = Random(34)
        for number in range(40):
            size = random.randint(1, 3)
            book = some_book(random, size)
            times = number % 3
            paper = book_paper(book, size, times)
            for other in otherwise(paper):
                told = slow.paper_on_book(book, size, times, other)
                if isinstance(told, list):
                    self.refused(check_book, (book, size, times, other), BadPaper, word=told[0])
                else:
                    self.assertEqual(check_book(book, size, times, other), told)

    def test_papers_by_other_hands(self):
        book = ("abab", "ab", "ababab")
        for paper in (("mixed", 0, 1, (), (0,)), ("mixed", 0, 2, (0,), ()), ("mixed", 0, 2, (2,), ()),
                      ("mixed", 0, 2, (1,), ()), ("mixed", 1, 2, (0, 0), ()), ("mixed", 1, 2, (0, 2), ()),
                      ("mixed", 0, 1, (0,), (0, 1))):
            self.assertEqual(check_book(book, 2, 2, paper), "mixed")
        for paper in (("mixed", 1, 0, (0,), ()), ("mixed", 0, 0, (), ()), ("mixed", 0, 1, (), ()),
                      ("mixed", 0, 1, (), (1,)), ("mixed", 0, 3, (), ()), ("mixed", -1, 0, (), ()),
                      ("mixed", False, True, (), (0,)), ("mixed", 0, 1, (), (False,)), ("mixed", 0, 1, (), [0]),
                      ("mixed", 0, 1, (0, 0, 0), (0, 0, 0, 0)), ("mixed", 0, 1, (0, 0), (0, 0, 0))):
            self.refused(check_book, (book, 2, 2, paper), BadPaper, word="mixed")
        self.refused(check_book, (book, 2, 1, ("mixed", 1, 2, (0, 0), ())), BadPaper, word="mixed")
        # Places and numbers that are none, but would lead to the same string where Python takes them.
        for paper in (("mixed", 0, 1, (), (0, 4)), ("mixed", 0, 1, (), (0, 3)), ("mixed", 0, 1, (), (0, -1)),
                      ("mixed", -1, 1, (), (0, 0)), ("mixed", 0, 1, (-1,), (0,)), ("mixed", -2, 0, (0,), ())):
            self.refused(check_book, (book, 2, 2, paper), BadPaper, word="mixed")
        # The rows are right, but the book is not clear by so many TIMES.
        rows = (("ab", (1,)), ("ab", (0,)), ("ab", (2,)))
        self.assertEqual(check_book(book, 2, 0, ("clear", rows)), "clear")
        self.refused(check_book, (book, 2, 1, ("clear", rows)), BadPaper, word="clear")
        self.refused(check_book, (book, 2, 0, ("clear", (("ab", (True,)), *rows[1:]))), BadPaper, word="clear")
        self.assertEqual(check_book(("abab", "c"), 2, 4, CLEAR), "clear")
        for value in NO_TUPLES:
            for rows in ((value, ("c", ())), ((value, (1,)), ("c", ())), (("ab", value), ("c", ())),
                         (("ab", (value,)), ("c", ()))):
                told = slow.paper_on_book(("abab", "c"), 2, 4, ("clear", rows))
                if told != "clear":
                    self.refused(check_book, (("abab", "c"), 2, 4, ("clear", rows)), BadPaper, word="clear")


class TestSafeBooks(Refusals, unittest.TestCase):
    def test_root_count_by_hand(self):
        self.assertEqual(root_count(6, 1, 4), 6)
        self.assertEqual(root_count(6, 3, 4), 216)
        self.assertEqual(root_count(6, 4, 4), 1296)
        self.assertEqual(root_count(2, 3, 1), 2)
        self.assertEqual(root_count(1, 4, 4), 1)
        self.assertEqual([root_count(1, length, 3) for length in range(1, 9)], [1, 1, 1, 1, 1, 0, 0, 0])
        self.assertEqual(root_count(6, 24, 1), 6 * 5 ** 23)

    def test_what_all_texts_tell(self):
        for signs in (1, 2, 3):
            for length in range(1, 8 if signs < 3 else 7):
                texts = slow.texts(signs, length)
                for size in (1, 2, 3, 4):
                    roots = [slow.root(text, size) for text in texts]
                    own = [text for text, other in zip(texts, roots) if text == other]
                    self.assertEqual(root_count(signs, length, size), len(own))
                    self.assertEqual(safe_most(signs, length, size), len(set(roots)))

    def test_safe_most_of_long_texts(self):
        self.assertEqual(safe_most(6, 24, 1), sum(6 * 5 ** rest for rest in range(24)))
        self.assertEqual(safe_most(1, 24, 4), 1)
        self.assertEqual(safe_most(6, 3, 4), 216)

    def test_safe_books(self):
        for many in range(1, 9):
            for signs in range(1, 7):
                for size in (1, 2, 3, 4):
                    length = safe_length(many, signs, size)
                    book = safe_book(many, signs, size)
                    if length is None:
                        self.assertEqual((signs, many > 1), (1, True))
                        self.assertIsNone(book)
                        continue
                    self.assertGreaterEqual(safe_most(signs, length, size), many)
                    for shorter in range(1, length):
                        self.assertLess(safe_most(signs, shorter, size), many)
                    self.assertIs(need_book(book), book)
                    self.assertEqual([len(text) for text in book], [length] * many)
                    self.assertLessEqual(set("".join(book)), set("abcdef"[:signs]))
                    self.assertEqual(len({slow.root(text, size) for text in book}), many)
                    self.assertIs(is_safe(book, size), True)

    def test_safe_length_by_hand(self):
        self.assertEqual(safe_length(1, 1, 4), 1)
        self.assertIsNone(safe_length(2, 1, 4))
        self.assertEqual(safe_length(8, 2, 4), 3)
        self.assertEqual(safe_length(8, 2, 1), 4)
        self.assertEqual(safe_length(6, 6, 1), 1)
        self.assertEqual(safe_length(7, 6, 1), 2)


if __name__ == "__main__":
    unittest.main()
