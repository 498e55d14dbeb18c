"""[1.1] to [1.3]: what a book is, its words, and what it reads. [0.4]: it stays as it is."""

import unittest

from alikeread.books import Book
from alikeread.errors import BadBook, BadNumber, BadRow, TooLong
from samples import FAR, NO_INTEGERS, NO_TUPLES, small_books, tuples_below

LONG = (0,) * 5000


class TestCreation(unittest.TestCase):

    def refused(self, letters, words):
        with self.assertRaises(BadBook):
            Book(letters, words)

    def test_attributes_and_words(self):
        book = Book(2, [(0, 1), (1,)])
        self.assertEqual((book.letters, book.size), (2, 2))
        self.assertIs(type(book.letters), int)
        self.assertIs(type(book.size), int)
        self.assertEqual(book.words(), [(0, 1), (1,)])
        self.assertIs(type(book.words()), list)

    def test_numbers_of_letters(self):
        for letters in range(61):
            self.assertEqual(Book(letters, []).letters, letters)
        for letters in [-1, 61, 62, 100, FAR, -FAR] + NO_INTEGERS:
            self.refused(letters, [])

    def test_numbers_of_words(self):
        for size in range(61):
            book = Book(1, [(0,)] * size)
            self.assertEqual(book.size, size)
            self.assertEqual(book.words(), [(0,)] * size)
        self.refused(1, [(0,)] * 61)
        self.refused(1, [(0,)] * 1000)

    def test_words_are_a_list(self):
        values = [None, True, 0, 1, "", "0", b"", (), ((0,),), ((0,), (0,)), {}, {(0,): 0}, set(), {(0,)},
                  iter([]), iter([(0,)]), object(), FAR, list, range(0)]
        for words in values:
            self.refused(2, words)

    def test_lengths_of_words(self):
        self.refused(1, [()])
        self.refused(1, [(0,), ()])
        self.refused(0, [()])
        for length in [1, 2, 4999, 5000]:
            self.assertEqual(Book(1, [(0,) * length]).word(0), (0,) * length)
        self.refused(1, [(0,) * 5001])
        self.refused(1, [(0,), (0,) * 5001])
        self.refused(1, [(0,) * 100000])

    def test_letters_of_words(self):
        for letters in range(1, 61):
            self.assertEqual(Book(letters, [(letters - 1,)]).word(0), (letters - 1,))
            self.refused(letters, [(letters,)])
            self.refused(letters, [(0,), (0, letters)])
        self.refused(0, [(0,)])
        self.refused(60, [(60,)])
        self.refused(2, [(FAR,)])

    def test_words_of_other_kinds(self):
        for value in NO_TUPLES:
            self.refused(60, [value])
            self.refused(60, [(0,), value])

    def test_largest_book(self):
        words = [(first,) + (59,) * 4999 for first in range(60)]
        book = Book(60, words)
        self.assertEqual(book.words(), words)
        self.assertTrue(book.starts_apart())
        self.assertEqual(book.read((0,) * 20), words[0] * 20)

    def test_lists_of_the_caller_may_change(self):
        words = [(0, 1), (1,)]
        book = Book(2, words)
        self.assertEqual(words, [(0, 1), (1,)])
        words.append((0,))
        words[0] = (1, 1)
        self.assertEqual((book.words(), book.size), ([(0, 1), (1,)], 2))
        self.assertEqual(book.word(0), (0, 1))
        self.assertEqual(book.read((0, 1)), (0, 1, 1))

    def test_lists_that_come_back_may_change(self):
        book = Book(2, [(0, 1), (1,)])
        told = book.words()
        told[0] = (1,)
        del told[1]
        self.assertEqual(book.words(), [(0, 1), (1,)])
        self.assertEqual((book.size, book.word(1), book.length((0, 1))), (2, (1,), 3))
        self.assertIsNot(book.words(), book.words())


class TestWord(unittest.TestCase):

    def test_each_word(self):
        words = [(k, 0) for k in range(60)]
        book = Book(60, words)
        self.assertEqual([book.word(number) for number in range(60)], words)
        self.assertIs(type(book.word(0)), tuple)

    def test_bad_numbers(self):
        book = Book(2, [(0, 1), (1,)])
        for number in [-1, -2, 2, 3, FAR, -FAR] + NO_INTEGERS:
            with self.assertRaises(BadNumber):
                book.word(number)

    def test_book_without_words(self):
        for number in [0, -1, 1] + NO_INTEGERS:
            with self.assertRaises(BadNumber):
                Book(2, []).word(number)


class TestRead(unittest.TestCase):

    def test_example(self):
        book = Book(2, [(0, 1), (1,)])
        self.assertEqual(book.read((0, 1, 1)), (0, 1, 1, 1))
        self.assertEqual(book.length((0, 1, 1)), 4)

    def test_all_rows_of_small_books(self):
        for book in small_books(2, 2, 2):
            words = book.words()
            for row in tuples_below(book.size, 3):
                text = sum([words[number] for number in row], ())
                self.assertEqual(book.read(row), text)
                self.assertEqual(book.length(row), len(text))

    def test_empty_row(self):
        for book in [Book(0, []), Book(60, []), Book(2, [(0, 1)])]:
            self.assertEqual(book.read(()), ())
            self.assertEqual(book.length(()), 0)

    def test_kinds(self):
        book = Book(2, [(0, 1), (1,)])
        for row in [(), (0,), (0, 1, 1)]:
            self.assertIs(type(book.read(row)), tuple)
            self.assertIs(type(book.length(row)), int)

    def test_bad_rows(self):
        book = Book(3, [(0, 1), (1,)])
        for row in NO_TUPLES + [(2,), (0, 2), (2, 0), (0, 1, FAR)]:
            with self.assertRaises(BadRow):
                book.length(row)
            with self.assertRaises(BadRow):
                book.read(row)

    def test_bad_rows_of_a_book_without_words(self):
        for row in NO_TUPLES + [(0,), (0, 0), (1,)]:
            with self.assertRaises(BadRow):
                Book(3, []).length(row)
            with self.assertRaises(BadRow):
                Book(3, []).read(row)

    def test_longest_text(self):
        book = Book(1, [LONG, (0,)])
        self.assertEqual(book.read((0,) * 20), (0,) * 100000)
        self.assertEqual(book.read((0,) * 19 + (1,) * 5000), (0,) * 100000)
        self.assertEqual(book.read((1,) * 100000), (0,) * 100000)
        self.assertEqual(book.length((0,) * 20), 100000)

    def test_too_long_texts(self):
        book = Book(1, [LONG, (0,)])
        for row, length in [((0,) * 20 + (1,), 100001), ((1,) * 100001, 100001), ((0,) * 1000, 5000000)]:
            self.assertEqual(book.length(row), length)
            with self.assertRaises(TooLong):
                book.read(row)

    def test_bad_row_comes_ahead_of_too_long(self):
        book = Book(1, [LONG, (0,)])
        for end in [2, -1, True, None, (0,)]:
            with self.assertRaises(BadRow):
                book.read((0,) * 21 + (end,))


if __name__ == "__main__":
    unittest.main()
