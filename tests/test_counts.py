"""[4.1] to [4.7]: how many alike rows there are, and the alike rows in order."""

import unittest
from itertools import product
from random import Random

from samples import (
    EVEN_NOT_APART, EXAMPLE, FAR, NO_INTEGERS, NO_TUPLES, NOT_EVEN, NOTHING, alike_rows, beside, even_pairs, hill,
    hill_row, ladder, shrinking, tuples_below, turning)

from alikeread.books import Book, Pair
from alikeread.counts import between, count_at, counts, least, number_of, prime_lengths, row_at
from alikeread.errors import BadBook, BadNumber, BadRow, NotApart, TooLong
from alikeread.primes import primes

LENGTHS = {0: 2, 1: 7, 2: 7, 3: 5, 4: 4, 5: 3}
ONE = Pair(Book(1, [(0,)]), Book(1, [(0,)]))
TWO = Pair(Book(2, [(0, 1), (1,)]), Book(2, [(0,), (1, 1)]))
NO_PRIMES = [NOTHING, shrinking(5), turning(3), Pair(Book(1, [(0,)]), Book(1, [(0, 0)]))]
# Both prime rows have more than 10 ** 17 numbers.
GREAT = beside([hill([60] * 10, [60] * 10), hill([60] * 10 + [1], [60] * 10)])
TOO_LONG = [beside([turning(7), turning(11), turning(13)]), ladder(4998, (5, 5))]


def with_lengths(lengths):
    """Return a pair with prime rows of some lengths, each of them 1 or from 3 to 5001."""
    return beside([ONE if length == 1 else hill([length - 2], [length - 2]) for length in lengths])


def plain_counts(lengths, most):
    """Return how many rows of each length up to `most` are made of pieces of these lengths."""
    ways = [1] + [0] * most
    for length in range(1, most + 1):
        for part in lengths:
            if part <= length:
                ways[length] += ways[length - part]
    return [0] + ways[1:]


def in_order(row):
    return len(row), row


def some_even_pairs():
    return even_pairs()[::4] + [EXAMPLE, beside([ONE, TWO]), beside([TWO, ONE]), beside([ONE, ONE, ONE])] + NO_PRIMES


class TestAgainstAllShortRows(unittest.TestCase):

    def test_counts(self):
        for pair in even_pairs() + some_even_pairs():
            longest = LENGTHS[pair.first.size]
            rows = alike_rows(pair, longest)
            plain = [len([row for row in rows if len(row) == length]) for length in range(longest + 1)]
            self.assertEqual(counts(pair, longest), plain)

    def test_each_length(self):
        for pair in some_even_pairs():
            plain = plain_counts([len(row) for row in primes(pair)], 30)
            self.assertEqual(counts(pair, 30), plain)
            self.assertEqual([count_at(pair, length) for length in range(31)], plain)

    def test_rows_by_number(self):
        many = 0
        for pair in some_even_pairs():
            longest = LENGTHS[pair.first.size]
            rows = alike_rows(pair, longest)
            for number, row in enumerate(rows[:100]):
                self.assertEqual(row_at(pair, number), row)
                many += 1
            if rows or primes(pair):
                self.assertIsNotNone(row_at(pair, len(rows)))
            else:
                self.assertIsNone(row_at(pair, 0))
        self.assertGreater(many, 500)

    def test_numbers_of_rows(self):
        for pair in some_even_pairs():
            alike = set(alike_rows(pair, 4))
            before = 0
            for row in list(tuples_below(pair.first.size, 4))[:150]:
                self.assertEqual(number_of(pair, row), before)
                before += row in alike

    def test_between(self):
        for pair in [EXAMPLE, NOTHING, shrinking(3), beside([ONE, TWO]), beside([ONE, ONE])] + even_pairs()[::40]:
            alike = alike_rows(pair, 3)
            rows = list(tuples_below(pair.first.size, 3))
            for first, second in product(rows[::1 + len(rows) // 12], repeat=2):
                plain = [row for row in alike if in_order(first) <= in_order(row) <= in_order(second)]
                self.assertEqual(between(pair, first, second), len(plain))

    def test_least(self):
        for pair in some_even_pairs():
            found = sorted(primes(pair), key=in_order)
            self.assertEqual(least(pair), found[0] if found else None)
            self.assertEqual(least(pair), row_at(pair, 0))

    def test_example(self):
        self.assertEqual(prime_lengths(EXAMPLE), [(2, 1)])
        self.assertEqual(counts(EXAMPLE, 6), [0, 0, 1, 0, 1, 0, 1])
        self.assertEqual(least(EXAMPLE), (0, 1))
        self.assertEqual(row_at(EXAMPLE, 2), (0, 1, 0, 1, 0, 1))
        self.assertEqual((number_of(EXAMPLE, (1,)), number_of(EXAMPLE, (1, 0))), (0, 1))


class TestPrimeLengths(unittest.TestCase):

    def test_plain(self):
        for pair in even_pairs():
            lengths = [len(row) for row in primes(pair)]
            self.assertEqual(prime_lengths(pair), [(one, lengths.count(one)) for one in sorted(set(lengths))])
        self.assertEqual(prime_lengths(with_lengths([5, 1, 5001, 5, 3, 5])), [(1, 1), (3, 1), (5, 3), (5001, 1)])

    def test_great_lengths(self):
        found = prime_lengths(GREAT)
        self.assertEqual([many for _, many in found], [1, 1])
        self.assertGreater(found[0][0], 10 ** 17)
        self.assertEqual(found[1][0], found[0][0] + 60 ** 10)

    def test_none(self):
        for pair in NO_PRIMES:
            self.assertEqual(prime_lengths(pair), [])


class TestCounts(unittest.TestCase):

    def test_up_to_a_thousand(self):
        pair = with_lengths([1, 3, 3, 7, 1000, 1001])
        self.assertEqual(counts(pair, 1000), plain_counts([1, 3, 3, 7, 1000, 1001], 1000))
        self.assertEqual(counts(pair, 0), [0])
        self.assertEqual(counts(GREAT, 1000), [0] * 1001)
        book = Book(60, [(k,) for k in range(60)])
        self.assertEqual(counts(Pair(book, book), 1000), [0] + [60 ** length for length in range(1, 1001)])
        for length in (0, 1, 999, 1000):
            self.assertEqual(count_at(pair, length), counts(pair, 1000)[length])

    def test_values_that_are_no_lengths(self):
        for pair in [EXAMPLE, GREAT] + NO_PRIMES:
            for value in NO_INTEGERS + [-1, -FAR]:
                with self.assertRaises(BadNumber):
                    counts(pair, value)
                with self.assertRaises(BadNumber):
                    count_at(pair, value)
        for pair in [EXAMPLE] + NO_PRIMES:
            for value in (1001, 1002, FAR):
                with self.assertRaises(BadNumber):
                    counts(pair, value)

    def test_ten_times_the_shortest(self):
        for lengths in [150, 170, 203], [101], [300, 301, 150, 150, 999], [700, 150, 151, 151, 154, 160, 162, 163]:
            pair = with_lengths(lengths)
            most = 10 * min(lengths)
            plain = plain_counts(lengths, most)
            for length in list(range(1001, most, 37)) + [most - 1, most]:
                self.assertEqual(count_at(pair, length), plain[length])
            for length in (most + 1, most + 2, 100 * most, FAR):
                with self.assertRaises(TooLong):
                    count_at(pair, length)

    def test_short_ones_and_a_great_length(self):
        # The length is more than ten times the shortest one, but not more than 1000.
        pair = with_lengths([1, 3])
        self.assertEqual(count_at(pair, 1000), plain_counts([1, 3], 1000)[1000])
        with self.assertRaises(TooLong):
            count_at(pair, 1001)
        pair = with_lengths([100, 100])
        self.assertEqual(count_at(pair, 1000), 2 ** 10)
        with self.assertRaises(TooLong):
            count_at(pair, 1001)

    def test_eight_and_nine_lengths(self):
        eight = [150, 151, 152, 153, 154, 155, 157, 157, 161]
        pair = with_lengths(eight)
        self.assertEqual(count_at(pair, 1400), plain_counts(eight, 1400)[1400])
        self.assertEqual(count_at(pair, 1500), plain_counts(eight, 1500)[1500])
        nine = eight + [162]
        pair = with_lengths(nine)
        self.assertEqual(count_at(pair, 1000), plain_counts(nine, 1000)[1000])
        for length in (1001, 1400, 1500, 1501):
            with self.assertRaises(TooLong):
                count_at(pair, length)

    def test_great_lengths(self):
        one, other = [length for length, _ in prime_lengths(GREAT)]
        found = [
            (one, 1), (other, 1), (2 * one, 1), (one + other, 2), (one + 1, 0), (one - 1, 0), (1001, 0),
            (7 * one + 3 * other, 120), (5 * one + 5 * other, 252 if 5 * one + 5 * other <= 10 * one else None),
            (10 * one, 1), (10 * one + 1, None), (9 * one + other, None), (0, 0), (FAR, None)]
        for length, many in found:
            if length > 10 * one:
                with self.assertRaises(TooLong):
                    count_at(GREAT, length)
            else:
                self.assertEqual(count_at(GREAT, length), many)

    def test_no_primes(self):
        for pair in NO_PRIMES:
            self.assertEqual(counts(pair, 5), [0] * 6)
            for length in (0, 1, 1000, 1001, FAR):
                self.assertEqual(count_at(pair, length), 0)


class TestLeast(unittest.TestCase):

    def test_ten_thousand_numbers(self):
        self.assertEqual(least(hill([2, 2499], [1, 4998])), hill_row([2, 2499], [1, 4998]))
        for pair in (hill([99, 99], [99, 99]), GREAT):
            with self.assertRaises(TooLong):
                least(pair)
        self.assertEqual(least(beside([GREAT, TWO, TWO, ONE])), (47,))
        self.assertEqual(least(beside([GREAT, TWO, TWO])), (43, 44))


class TestNumbers(unittest.TestCase):

    def test_numbers_of_any_size(self):
        pair = beside([ONE, TWO, ONE])
        plain = plain_counts([1, 2, 1], 1000)
        ahead = sum(plain[:1000])
        last = ahead + plain[1000] - 1
        self.assertEqual(row_at(pair, ahead - 1), (3,) * 999)
        self.assertEqual(row_at(pair, ahead), (0,) * 1000)
        self.assertEqual(row_at(pair, last), (3,) * 1000)
        self.assertEqual(number_of(pair, (3,) * 1000), last)
        self.assertEqual(number_of(pair, (2,) * 1000), ahead + plain[999] + plain[998])
        for number in (last + 1, FAR):
            with self.assertRaises(TooLong):
                row_at(pair, number)
        random = Random(5)
        for _ in range(20):
            number = random.randrange(last)
            self.assertEqual(number_of(pair, row_at(pair, number)), number)

    def test_a_thousand_numbers(self):
        pair = with_lengths([1000])
        self.assertEqual(row_at(pair, 0), hill_row([998], [998]))
        self.assertEqual(number_of(pair, (2,) * 1000), 1)
        self.assertEqual(between(pair, (), (2,) * 1000), 1)
        for wrong in (pair, 1), (with_lengths([1001]), 0), (GREAT, 0), (GREAT, FAR):
            with self.assertRaises(TooLong):
                row_at(wrong[0], wrong[1])
        self.assertEqual(number_of(with_lengths([1001]), (2,) * 1000), 0)
        self.assertEqual(between(GREAT, (), (0,) * 1000), 0)

    def test_rows_that_are_too_long(self):
        for pair in (EXAMPLE, shrinking(3)):
            with self.assertRaises(TooLong):
                number_of(pair, (0,) * 1001)
            for first, second in ((0,) * 1001, (0,)), ((0,), (0,) * 1001), ((0,) * 1001, None), ((0,) * 1001, (9,)):
                with self.assertRaises(TooLong):
                    between(pair, first, second)
            for first, second in (None, (0,) * 1001), ((9,), (0,) * 1001), ((0,), (0,) * 1001 + (9,)):
                with self.assertRaises(BadRow):
                    between(pair, first, second)

    def test_between_ends(self):
        self.assertEqual(between(EXAMPLE, (0, 1), (0, 1)), 1)
        self.assertEqual(between(EXAMPLE, (0, 1), (1, 0)), 1)
        self.assertEqual(between(EXAMPLE, (1, 0), (0, 1)), 0)
        self.assertEqual(between(EXAMPLE, (1, 0), (0, 1, 0, 1)), 1)
        self.assertEqual(between(EXAMPLE, (0, 1, 0, 1), (0, 1)), 0)
        self.assertEqual(between(EXAMPLE, (), (0, 1) * 500), 500)
        self.assertEqual(between(EXAMPLE, (), ()), 0)

    def test_values_of_any_kind(self):
        for pair in (EXAMPLE, shrinking(3)):
            for value in NO_INTEGERS + [-1, -FAR]:
                with self.assertRaises(BadNumber):
                    row_at(pair, value)
            for value in NO_TUPLES + [(2,), (0, 2), (0, FAR), [0, 1], (0, True), (0,) * 1001 + (2,)]:
                with self.assertRaises(BadRow):
                    number_of(pair, value)
                with self.assertRaises(BadRow):
                    between(pair, value, (0,))
                with self.assertRaises(BadRow):
                    between(pair, (0,), value)

    def test_no_primes(self):
        for pair in NO_PRIMES:
            self.assertIsNone(least(pair))
            self.assertEqual(number_of(pair, (0,) * (pair.first.size > 0)), 0)
            for number in (0, 1, FAR):
                self.assertIsNone(row_at(pair, number))


class TestErrors(unittest.TestCase):

    def functions(self):
        for value in [0, (), (0,), None, True, -1, 1001, (0,) * 1001, (99,), FAR]:
            for function in (counts, count_at, row_at, number_of):
                yield lambda pair: function(pair, value)
            yield lambda pair: between(pair, value, value)
        yield prime_lengths
        yield least

    def test_what_comes_first(self):
        for pairs, error in (NOT_EVEN, BadBook), (EVEN_NOT_APART, NotApart), (TOO_LONG[1:], TooLong):
            for pair in pairs:
                for function in self.functions():
                    with self.assertRaises(error):
                        function(pair)

    def test_chains_that_are_too_long(self):
        for function in (prime_lengths, least, lambda pair: counts(pair, -1), lambda pair: between(pair, None, None)):
            with self.assertRaises(TooLong):
                function(TOO_LONG[0])


class TestNew(unittest.TestCase):

    def test_lists_are_new(self):
        counts(EXAMPLE, 6).append(9)
        prime_lengths(EXAMPLE).clear()
        self.assertEqual((counts(EXAMPLE, 3), prime_lengths(EXAMPLE)), ([0, 0, 1, 0], [(2, 1)]))

    def test_two_pairs_by_turns(self):
        pairs = [EXAMPLE, beside([ONE, TWO])]
        alone = [[row_at(pair, number) for number in range(30)] for pair in pairs]
        for number in range(30):
            for pair, rows in zip(pairs, alone):
                self.assertEqual(row_at(pair, number), rows[number])
                self.assertEqual(number_of(pair, rows[number]), number)


if __name__ == "__main__":
    unittest.main()
