"""[1.8] and [1.9]: pairs of books, and what holds of the rows that both read alike."""

import unittest

from alikeread.books import Book, Pair, same, same_pair
from alikeread.errors import BadBook
from samples import small_books, tuples_below

APART = Book(2, [(0, 1), (1,)])
MIXED = Book(2, [(0, 1), (0,), (1,)])


def alike(pair, row):
    """Tell of a row of both books whether it is alike."""
    return row != () and pair.first.read(row) == pair.second.read(row)


class TestPair(unittest.TestCase):

    def test_attributes(self):
        pair = Pair(APART, MIXED)
        self.assertTrue(same(pair.first, APART))
        self.assertTrue(same(pair.second, MIXED))
        self.assertEqual(pair.letters, 2)
        self.assertIs(type(pair.letters), int)

    def test_other_numbers_of_letters(self):
        for one, other in [(0, 1), (1, 0), (2, 3), (60, 59)]:
            with self.assertRaises(BadBook):
                Pair(Book(one, []), Book(other, []))
        with self.assertRaises(BadBook):
            Pair(APART, Book(3, [(0, 1), (1,)]))

    def test_numbers_of_words_may_be_unlike(self):
        pair = Pair(Book(60, []), Book(60, [(0,)] * 60))
        self.assertEqual((pair.first.size, pair.second.size, pair.letters), (0, 60, 60))

    def test_is_apart(self):
        self.assertIs(Pair(APART, APART).is_apart(), True)
        self.assertIs(Pair(APART, MIXED).is_apart(), False)
        self.assertIs(Pair(MIXED, APART).is_apart(), False)
        self.assertIs(Pair(MIXED, MIXED).is_apart(), False)
        self.assertIs(Pair(Book(0, []), Book(0, [])).is_apart(), True)

    def test_is_even(self):
        self.assertIs(Pair(APART, Book(2, [(1,), (0,)])).is_even(), True)
        self.assertIs(Pair(APART, MIXED).is_even(), False)
        self.assertIs(Pair(MIXED, APART).is_even(), False)
        self.assertIs(Pair(Book(2, []), Book(2, [])).is_even(), True)
        self.assertIs(Pair(Book(2, []), Book(2, [(0,)])).is_even(), False)

    def test_turned(self):
        turned = Pair(APART, Book(2, [(0, 0, 1)])).turned()
        self.assertIsInstance(turned, Pair)
        self.assertEqual(turned.first.words(), [(1, 0), (1,)])
        self.assertEqual(turned.second.words(), [(1, 0, 0)])
        self.assertEqual(turned.letters, 2)

    def test_swapped(self):
        pair = Pair(APART, MIXED)
        swapped = pair.swapped()
        self.assertIsInstance(swapped, Pair)
        self.assertTrue(same(swapped.first, MIXED))
        self.assertTrue(same(swapped.second, APART))
        self.assertEqual(swapped.letters, 2)
        self.assertTrue(same(pair.first, APART))
        self.assertTrue(same_pair(swapped.swapped(), pair))

    def test_same_pair(self):
        pair = Pair(APART, MIXED)
        self.assertIs(same_pair(pair, pair), True)
        self.assertIs(same_pair(pair, Pair(Book(2, APART.words()), Book(2, MIXED.words()))), True)
        self.assertIs(same_pair(pair, pair.swapped()), False)
        self.assertIs(same_pair(pair, Pair(APART, APART)), False)
        self.assertIs(same_pair(pair, Pair(MIXED, MIXED)), False)
        self.assertIs(same_pair(Pair(Book(0, []), Book(0, [])), Pair(Book(1, []), Book(1, []))), False)


class TestAlikeRows(unittest.TestCase):

    def test_swapped_and_turned(self):
        books = list(small_books(2, 2, 2))
        for first in books:
            for second in books:
                if first.size != second.size:
                    continue
                pair = Pair(first, second)
                for row in tuples_below(first.size, 2):
                    told = alike(pair, row)
                    self.assertEqual(alike(pair.swapped(), row), told)
                    self.assertEqual(alike(pair.turned(), row[::-1]), told)

    def test_one_behind_the_other(self):
        pair = Pair(APART, Book(2, [(0,), (1, 1)]))
        found = [row for row in tuples_below(2, 6) if alike(pair, row)]
        self.assertEqual(found, [(0, 1), (0, 1, 0, 1), (0, 1, 0, 1, 0, 1)])


if __name__ == "__main__":
    unittest.main()
