"""[3.6] to [3.9], [3.13], [1.9]: prime rows, and the rows that are made of them."""

import unittest
from itertools import product
from random import Random

from samples import (
    EVEN_NOT_APART, EXAMPLE, FAR, NO_TUPLES, NOT_EVEN, NOTHING, alike_rows, beside, even_pairs, hill, hill_row, ladder,
    renumbered, shrinking, small_books, some_pairs, tuples_below, turning)

from alikeread.books import Book, Pair
from alikeread.chain import alike_letters, chain
from alikeread.errors import BadBook, BadRow, NotApart, TooLong
from alikeread.primes import in_primes, is_alike, primes, row_made

# So many numbers have the rows that are tried for pairs with so many words.
LENGTHS = {0: 2, 1: 6, 2: 7, 3: 5, 4: 4, 5: 3}
ONES = Pair(Book(1, [(0,)]), Book(1, [(0,)]))
# A prime row of 10 ** 17 numbers and more, and the prime row (41,).
GREAT = beside([hill([7] * 20, [7] * 20), Pair(Book(2, [(1,), (0,)]), Book(2, [(1,), (0, 0)]))])
# The chain of this pair is too long, and so is a walk of this one.
TOO_LONG = [beside([turning(7), turning(11), turning(13)]), ladder(4998, (5, 5))]


def plain_primes(rows):
    """Return those of all alike rows up to some length that are not made of two of them."""
    found = set(rows)
    return sorted(row for row in rows if not any(row[:k] in found and row[k:] in found for k in range(1, len(row))))


class TestPrimes(unittest.TestCase):

    def test_against_all_short_rows(self):
        many = 0
        for pair in even_pairs():
            longest = LENGTHS[pair.first.size]
            found = primes(pair)
            self.assertEqual(found, sorted(found))
            self.assertEqual([row for row in found if len(row) <= longest], plain_primes(alike_rows(pair, longest)))
            for row in found:
                self.assertEqual(pair.first.read(row), pair.second.read(row))
                for k in range(1, len(row)):
                    self.assertNotEqual(pair.first.read(row[:k]), pair.second.read(row[:k]))
            self.assertEqual(len({row[0] for row in found}), len(found))
            self.assertLessEqual(len(found), min(pair.first.size, pair.letters))
            many += len(found) > 0
        self.assertGreater(many, 100)

    def test_read_down_the_chain_by_either_book(self):
        for pair in even_pairs():
            pairs, home = chain(pair)
            for books in [one.first for one in pairs], [one.second for one in pairs]:
                rows = [(letter,) for letter in alike_letters(pairs[home])]
                for level in range(home, 0, -1):
                    rows = [books[level].read(row) for row in rows]
                self.assertEqual(primes(pair), sorted(rows))

    def test_swapped(self):
        for pair in even_pairs():
            self.assertEqual(primes(pair.swapped()), primes(pair))

    def test_example(self):
        self.assertEqual(primes(EXAMPLE), [(0, 1)])
        self.assertEqual(EXAMPLE.first.read((0, 1)), (0, 1, 1))

    def test_home_at_once(self):
        self.assertEqual(primes(ONES), [(0,)])
        self.assertEqual(primes(NOTHING), [])
        book = Book(3, [(2, 0), (0,), (1, 1)])
        self.assertEqual(primes(Pair(book, book)), [(0,), (1,), (2,)])

    def test_no_primes(self):
        self.assertEqual(primes(shrinking(9)), [])
        self.assertEqual(primes(Pair(Book(2, [(0,), (1,)]), Book(2, [(1,), (0,)]))), [])
        self.assertEqual(primes(beside([turning(2), turning(5), turning(7), turning(9)])), [])

    def test_order_of_several(self):
        parts = [hill([2], [2]), ONES, hill([3], [3]), EXAMPLE, ONES]
        rows = [(0, 1, 1, 2), (3,), (4, 5, 5, 5, 6), (7, 8), (9,)]
        pair = beside(parts)
        self.assertEqual(primes(pair), rows)
        last = pair.first.size - 1
        backward = Pair(Book(pair.letters, pair.first.words()[::-1]), Book(pair.letters, pair.second.words()[::-1]))
        self.assertEqual(primes(backward), sorted(tuple(last - number for number in row) for row in rows))

    def test_other_letters_and_numbers(self):
        random = Random(8)
        parts = [hill([2], [2]), EXAMPLE, hill([2, 3], [3, 2]), ONES, EXAMPLE]
        pair = beside(parts)
        rows = primes(pair)
        self.assertEqual([len(row) for row in rows], [4, 2, 12, 1, 2])
        for _ in range(30):
            letters = random.sample(range(pair.letters), pair.letters)
            numbers = random.sample(range(pair.first.size), pair.first.size)
            other = renumbered(pair, letters, numbers)
            found = sorted(tuple(numbers[number] for number in row) for row in rows)
            self.assertEqual(primes(other), found)
            self.assertEqual([in_primes(other, row) for row in found], [(k,) for k in range(5)])
            self.assertEqual(in_primes(other, sum(found[::-1], ())), (4, 3, 2, 1, 0))

    def test_a_thousand_numbers(self):
        self.assertEqual(primes(hill([998], [998])), [hill_row([998], [998])])
        self.assertEqual(len(primes(hill([998], [998]))[0]), 1000)
        for pair in (hill([999], [999]), beside([hill([999], [999]), ONES]), GREAT, hill([28] * 4, [28] * 4)):
            with self.assertRaises(TooLong):
                primes(pair)

    def test_the_list_is_new(self):
        primes(EXAMPLE).append(7)
        self.assertEqual(primes(EXAMPLE), [(0, 1)])


class TestIsAlike(unittest.TestCase):

    def test_plain(self):
        books = list(small_books(2, 2, 2))
        for first, second in product(books, repeat=2):
            if first.size == second.size:
                pair = Pair(first, second)
                for row in tuples_below(first.size, 3):
                    alike = len(row) > 0 and first.read(row) == second.read(row)
                    self.assertIs(is_alike(pair, row), alike)
                    self.assertIs(is_alike(pair.swapped(), row), alike)
                    self.assertIs(is_alike(pair.turned(), row[::-1]), alike)

    def test_one_behind_the_other(self):
        for pair in even_pairs()[::3]:
            rows = alike_rows(pair, 3)
            for one, other in product(rows, repeat=2):
                self.assertIs(is_alike(pair, one + other), True)

    def test_longest_texts(self):
        pair = Pair(Book(1, [(0,), (0,)]), Book(1, [(0,), (0, 0)]))
        self.assertIs(is_alike(pair, (0,) * 100000), True)
        self.assertIs(is_alike(pair, (1,) * 50000), False)
        for row in ((0,) * 100001, (1,) * 50001, (0,) * 99999 + (1,)):
            for one in (pair, pair.swapped()):
                with self.assertRaises(TooLong):
                    is_alike(one, row)
        with self.assertRaises(BadRow):
            is_alike(pair, (0,) * 100001 + (2,))

    def test_values_that_are_no_rows(self):
        for pair in [EXAMPLE] + EVEN_NOT_APART:
            for value in NO_TUPLES + [(2,), (0, 2), (0, FAR), [0], (1, True)]:
                with self.assertRaises(BadRow):
                    is_alike(pair, value)
        with self.assertRaises(BadRow):
            is_alike(NOTHING, (0,))
        self.assertIs(is_alike(NOTHING, ()), False)

    def test_not_even_comes_first(self):
        for pair in NOT_EVEN:
            for value in [(), (0,), (7,), None, (0,) * 100001]:
                with self.assertRaises(BadBook):
                    is_alike(pair, value)


class TestMade(unittest.TestCase):

    def test_against_all_short_rows(self):
        for pair in even_pairs():
            longest = LENGTHS[pair.first.size]
            alike = set(alike_rows(pair, longest))
            found = primes(pair)
            for row in list(alike)[:20]:
                numbers = in_primes(pair, row)
                self.assertEqual(sum((found[k] for k in numbers), ()), row)
                self.assertEqual(row_made(pair, numbers), row)
            for row in tuples_below(pair.first.size, 2):
                self.assertEqual(in_primes(pair, row) is not None, row in alike)

    def test_rows_that_are_not_alike(self):
        for pair in some_pairs(20, 12, 3, 4, True):
            alike = set(alike_rows(pair, 5))
            for row in tuples_below(pair.first.size, 5):
                self.assertEqual(in_primes(pair, row) is not None, row in alike)

    def test_all_short_tuples_of_primes(self):
        for pair in even_pairs()[::3]:
            found = primes(pair)
            for numbers in tuples_below(len(found), 3):
                row = sum((found[k] for k in numbers), ())
                self.assertEqual(row_made(pair, numbers), row)
                self.assertEqual(in_primes(pair, row), numbers if numbers else None)

    def test_the_empty_row(self):
        for pair in (EXAMPLE, NOTHING, ONES, GREAT):
            self.assertIsNone(in_primes(pair, ()))
            self.assertEqual(row_made(pair, ()), ())

    def test_rows_that_end_too_soon_or_go_wrong(self):
        self.assertEqual(in_primes(EXAMPLE, (0, 1, 0, 1)), (0, 0))
        for row in (0,), (1,), (0, 1, 0), (0, 1, 1), (0, 0), (1, 0, 1):
            self.assertIsNone(in_primes(EXAMPLE, row))
        row = hill_row([998], [998])
        for wrong in (row[:-1], row[1:], row + (0,), row[:-1] + (1,), row[:500] + (0,) + row[501:]):
            self.assertIsNone(in_primes(hill([998], [998]), wrong))

    def test_great_prime_rows_that_are_not_met(self):
        self.assertEqual(in_primes(GREAT, (41,) * 3), (1, 1, 1))
        self.assertEqual(row_made(GREAT, (1,) * 10000), (41,) * 10000)
        self.assertIsNone(in_primes(GREAT, (41, 0, 1)))
        self.assertIsNone(in_primes(GREAT, (0,) + (1,) * 7 + (2,) * 20000))
        for numbers in (0,), (1, 0), (0, 0, 1):
            with self.assertRaises(TooLong):
                row_made(GREAT, numbers)

    def test_a_prime_row_of_more_than_ten_thousand_numbers(self):
        row = hill_row([100, 100], [100, 100])
        self.assertEqual(in_primes(hill([100, 100], [100, 100]), row * 2), (0, 0))

    def test_ten_thousand_numbers(self):
        pair = hill([2, 2499], [1, 4998])
        self.assertEqual(row_made(pair, (0,)), hill_row([2, 2499], [1, 4998]))
        self.assertEqual(len(row_made(pair, (0,))), 10000)
        with self.assertRaises(TooLong):
            row_made(hill([99, 99], [99, 99]), (0,))
        self.assertEqual(row_made(EXAMPLE, (0,) * 5000), (0, 1) * 5000)
        for numbers in ((0,) * 5001, (0,) * 100000):
            with self.assertRaises(TooLong):
                row_made(EXAMPLE, numbers)
        with self.assertRaises(TooLong):
            row_made(pair, (0, 0))

    def test_values_that_are_no_rows(self):
        for value in NO_TUPLES + [(2,), (0, 2), (0, FAR), [0, 1], (1, True)]:
            with self.assertRaises(BadRow):
                in_primes(EXAMPLE, value)
        for value in NO_TUPLES + [(1,), (0, 1), (0, FAR), (0,) * 5001 + (1,), (False,)]:
            with self.assertRaises(BadRow):
                row_made(EXAMPLE, value)
        for value in [(0,), None, [], 0]:
            with self.assertRaises(BadRow):
                row_made(shrinking(4), value)
            with self.assertRaises(BadRow):
                in_primes(NOTHING, value)


class TestErrors(unittest.TestCase):

    def test_what_comes_first(self):
        for pair in NOT_EVEN:
            with self.assertRaises(BadBook):
                primes(pair)
            for value in [(), (0,), None, (9,), 0]:
                for function in (in_primes, row_made):
                    with self.assertRaises(BadBook):
                        function(pair, value)
        for pair in EVEN_NOT_APART:
            with self.assertRaises(NotApart):
                primes(pair)
            for value in [(), (0,), None, (9,), 0]:
                for function in (in_primes, row_made):
                    with self.assertRaises(NotApart):
                        function(pair, value)

    def test_too_long_comes_ahead_of_the_values(self):
        for pair in TOO_LONG:
            with self.assertRaises(TooLong):
                primes(pair)
            for value in [(), (0,), None, (99,), 0]:
                for function in (in_primes, row_made):
                    with self.assertRaises(TooLong):
                        function(pair, value)
            self.assertIs(is_alike(pair, ()), False)


if __name__ == "__main__":
    unittest.main()
