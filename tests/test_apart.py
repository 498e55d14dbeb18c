"""[1.4] to [1.7]: books that start or end apart, turned ones, rows of texts, books put behind one another."""

import unittest

from alikeread.books import Book, same
from alikeread.errors import BadBook, BadRow, NotApart
from samples import FAR, NO_TUPLES, small_books, tuples_below


class TestApart(unittest.TestCase):

    def test_example(self):
        book = Book(2, [(0, 1), (1,)])
        self.assertIs(book.starts_apart(), True)
        self.assertIs(book.ends_apart(), False)

    def test_all_small_books(self):
        for book in small_books(3, 2, 2):
            words = book.words()
            starts = all(one[0] != other[0] for one in words[:1] for other in words[1:])
            ends = all(one[-1] != other[-1] for one in words[:1] for other in words[1:])
            self.assertIs(book.starts_apart(), starts)
            self.assertIs(book.ends_apart(), ends)
            self.assertIs(book.turned().starts_apart(), ends)
            self.assertIs(book.turned().ends_apart(), starts)

    def test_words_that_are_far_from_each_other(self):
        book = Book(3, [(0, 1), (1, 2), (0, 0)])
        self.assertEqual((book.starts_apart(), book.ends_apart()), (False, True))
        book = Book(3, [(0, 1), (1, 2), (2, 1)])
        self.assertEqual((book.starts_apart(), book.ends_apart()), (True, False))

    def test_book_without_words(self):
        for letters in [0, 1, 60]:
            book = Book(letters, [])
            self.assertIs(book.starts_apart(), True)
            self.assertIs(book.ends_apart(), True)
            self.assertTrue(same(book.turned(), book))

    def test_turned(self):
        book = Book(4, [(0, 1, 2), (3,), (1, 1, 0)])
        self.assertEqual(book.turned().words(), [(2, 1, 0), (3,), (0, 1, 1)])
        self.assertEqual(book.turned().letters, 4)
        self.assertEqual(book.words(), [(0, 1, 2), (3,), (1, 1, 0)])
        self.assertIsNot(book.turned(), book)
        self.assertTrue(same(book.turned().turned(), book))


class TestRowOf(unittest.TestCase):

    def test_example(self):
        book = Book(2, [(0, 1), (1,)])
        self.assertEqual(book.row_of((0, 1, 0, 1)), (0, 0))
        self.assertIsNone(book.row_of((0, 0)))

    def test_all_texts_of_small_books(self):
        for book in small_books(2, 2, 3):
            if not book.starts_apart():
                continue
            row_of_text = {book.read(row): row for row in tuples_below(book.size, 5)}
            for text in tuples_below(2, 5):
                self.assertEqual(book.row_of(text), row_of_text.get(text))

    def test_empty_text(self):
        for book in [Book(0, []), Book(3, []), Book(2, [(1, 1)])]:
            self.assertEqual(book.row_of(()), ())
            self.assertIs(type(book.row_of(())), tuple)

    def test_text_that_ends_within_a_word(self):
        book = Book(3, [(0, 1, 2), (2,)])
        self.assertIsNone(book.row_of((0, 1)))
        self.assertIsNone(book.row_of((2, 0)))
        self.assertEqual(book.row_of((2, 0, 1, 2, 2)), (1, 0, 1))

    def test_letter_without_a_word(self):
        book = Book(3, [(0, 1), (2,)])
        self.assertIsNone(book.row_of((1,)))
        self.assertIsNone(book.row_of((0, 1, 1)))
        self.assertIsNone(Book(3, []).row_of((0,)))

    def test_long_texts(self):
        book = Book(2, [(0,) + (1,) * 4999, (1,)])
        for row in [(0,) * 20, (1,) * 100000, (0,) * 19 + (1,) * 5000]:
            self.assertEqual(book.row_of(book.read(row)), row)
        self.assertIsNone(book.row_of(book.read((0,) * 20)[:-1]))
        self.assertEqual(book.row_of((1,) * 100001), (1,) * 100001)

    def test_bad_rows(self):
        book = Book(2, [(0, 1), (1,)])
        for text in NO_TUPLES + [(2,), (0, 2), (0, 0, 2), (FAR,)]:
            with self.assertRaises(BadRow):
                book.row_of(text)

    def test_bad_rows_of_a_book_without_letters(self):
        for text in NO_TUPLES + [(0,), (1,)]:
            with self.assertRaises(BadRow):
                Book(0, []).row_of(text)

    def test_not_apart(self):
        book = Book(2, [(0, 1), (0,)])
        for text in NO_TUPLES + [(), (0,), (0, 1), (2,)]:
            with self.assertRaises(NotApart):
                book.row_of(text)


class TestThen(unittest.TestCase):

    def test_words(self):
        book = Book(2, [(0, 1), (1,)]).then(Book(5, [(4, 3), (2,)]))
        self.assertEqual(book.words(), [(4, 3, 2), (2,)])
        self.assertEqual((book.letters, book.size), (5, 2))

    def test_reads_with_one_book_behind_the_other(self):
        for book in small_books(2, 2, 2):
            for other in [Book(3, [(0, 2), (1,)]), Book(1, [(0,), (0, 0)]), Book(2, [(1,), (1,)])]:
                both = book.then(other)
                self.assertEqual((both.letters, both.size), (other.letters, book.size))
                for row in tuples_below(book.size, 3):
                    self.assertEqual(both.read(row), other.read(book.read(row)))

    def test_three_books_in_either_way(self):
        first = Book(3, [(0, 1, 2), (2, 2), (1,), (0,)])
        second = Book(2, [(0,), (1, 0), (1, 1, 0)])
        third = Book(4, [(3, 2), (0, 0, 1)])
        self.assertTrue(same(first.then(second).then(third), first.then(second.then(third))))

    def test_arguments_stay(self):
        book = Book(2, [(0, 1), (1,)])
        other = Book(2, [(1,), (0, 0)])
        book.then(other)
        self.assertEqual(book.words(), [(0, 1), (1,)])
        self.assertEqual(other.words(), [(1,), (0, 0)])

    def test_without_words(self):
        self.assertTrue(same(Book(0, []).then(Book(60, [])), Book(60, [])))
        self.assertTrue(same(Book(1, []).then(Book(7, [(6, 5)])), Book(7, [])))

    def test_books_that_do_not_fit(self):
        book = Book(2, [(0, 1), (1,)])
        for words in [[], [(0,)], [(0,), (1,), (0,)], [(0,)] * 60]:
            with self.assertRaises(BadBook):
                book.then(Book(2, words))
        with self.assertRaises(BadBook):
            Book(0, []).then(Book(2, [(0,)]))
        with self.assertRaises(BadBook):
            Book(2, []).then(Book(2, []))

    def test_books_that_fit_by_letters_and_not_by_words(self):
        # As many words as this book has letters, whatever its own number of words is.
        self.assertEqual(Book(3, [(2,)]).then(Book(1, [(0,)] * 3)).words(), [(0,)])
        with self.assertRaises(BadBook):
            Book(3, [(2,)]).then(Book(1, [(0,)]))

    def test_longest_words(self):
        self.assertEqual(Book(1, [(0,) * 50]).then(Book(1, [(0,) * 100])).words(), [(0,) * 5000])
        self.assertEqual(Book(1, [(0,) * 5000]).then(Book(1, [(0,)])).words(), [(0,) * 5000])
        self.assertEqual(Book(1, [(0,)]).then(Book(1, [(0,) * 5000])).words(), [(0,) * 5000])

    def test_words_that_would_be_too_long(self):
        cases = [([(0,) * 3], 1667), ([(0,), (0,) * 3], 1667), ([(0,) * 5000], 2), ([(0,) * 5000], 5000)]
        for words, length in cases:
            with self.assertRaises(BadBook):
                Book(1, words).then(Book(1, [(0,) * length]))

    def test_largest_books(self):
        first = Book(60, [(k,) * 5000 for k in range(60)])
        second = Book(60, [(59 - k,) for k in range(60)])
        self.assertEqual(first.then(second).words(), [(59 - k,) * 5000 for k in range(60)])


class TestSame(unittest.TestCase):

    def test_same(self):
        book = Book(2, [(0, 1), (1,)])
        self.assertIs(same(book, book), True)
        self.assertIs(same(book, Book(2, [(0, 1), (1,)])), True)
        self.assertIs(same(Book(0, []), Book(0, [])), True)

    def test_other_letters(self):
        self.assertIs(same(Book(2, [(0, 1), (1,)]), Book(3, [(0, 1), (1,)])), False)
        self.assertIs(same(Book(0, []), Book(1, [])), False)

    def test_other_words(self):
        book = Book(2, [(0, 1), (1,)])
        for words in [[(1,), (0, 1)], [(0, 1)], [(0, 1), (1,), (1,)], [(0, 1), (0,)], [(0, 1), (1, 1)], []]:
            self.assertIs(same(book, Book(2, words)), False)
            self.assertIs(same(Book(2, words), book), False)


if __name__ == "__main__":
    unittest.main()
