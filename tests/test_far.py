"""[3.10] to [3.12]: prime rows of any length, asked by places."""

import unittest
from random import Random

from samples import (
    EVEN_NOT_APART, EXAMPLE, FAR, NO_INTEGERS, NOT_EVEN, NOTHING, beside, even_pairs, hill, hill_row, ladder, shrinking,
    turning)

from alikeread.books import Book, Pair
from alikeread.errors import BadBook, BadNumber, NotApart, TooLong
from alikeread.far import Far
from alikeread.primes import primes

ONES = Pair(Book(1, [(0,)]), Book(1, [(0,)]))
# Values that are no numbers from 0 on that are less than any given one.
WRONG = NO_INTEGERS + [-1, -FAR]


class TestShortRows(unittest.TestCase):

    def check(self, pair, rows):
        far = Far(pair)
        self.assertEqual(far.count, len(rows))
        for k, row in enumerate(rows):
            self.assertEqual(far.length(k), len(row))
            self.assertEqual(far.text_length(k), pair.first.length(row))
            self.assertEqual(far.numbers_in(k), [row.count(number) for number in range(pair.first.size)])
            for place in range(len(row) + 1):
                for many in (0, 1, 2, len(row), 10000):
                    self.assertEqual(far.stretch(k, place, many), row[place:place + many])
                for number in range(pair.first.size):
                    self.assertEqual(far.before(k, number, place), row[:place].count(number))
            for place, number in enumerate(row):
                self.assertEqual(far.at(k, place), number)
                self.assertEqual(far.place_of(k, number, row[:place].count(number)), place)
            for number in range(pair.first.size):
                for index in (row.count(number), row.count(number) + 1, FAR):
                    self.assertIsNone(far.place_of(k, number, index))
            with self.assertRaises(BadNumber):
                far.at(k, len(row))
            with self.assertRaises(BadNumber):
                far.stretch(k, len(row) + 1, 0)

    def test_small_pairs(self):
        many = 0
        for pair in even_pairs():
            rows = primes(pair)
            self.check(pair, rows)
            many += len(rows) > 1
        self.assertGreater(many, 20)

    def test_hills(self):
        for ups, downs in ([2], [2]), ([1, 1], [1, 1]), ([2, 3], [3, 2]), ([4, 1, 2], [8, 1]), ([2] * 4, [2] * 4):
            self.check(hill(ups, downs), [hill_row(ups, downs)])

    def test_several(self):
        self.check(beside([ONES, EXAMPLE, ONES]), [(0,), (1, 2), (3,)])
        self.check(ONES, [(0,)])
        self.check(EXAMPLE, [(0, 1)])

    def test_none(self):
        for pair in (NOTHING, shrinking(5)):
            self.assertEqual(Far(pair).count, 0)


class TestGreatRows(unittest.TestCase):

    def check(self, times, high):
        far = Far(hill([times] * high, [times] * high))
        self.assertEqual(far.count, 1)
        many = [times ** min(number, 2 * high - number) for number in range(2 * high + 1)]
        begins = [sum(many[:number]) for number in range(2 * high + 2)]
        self.assertEqual(far.length(0), begins[-1])
        self.assertEqual(far.numbers_in(0), many)
        # The first text has 0 (1 1 ..), and then each number is read as the next one.
        letters = [many[k] * (times if k < high else 1) for k in range(2 * high + 1)]
        self.assertEqual(far.text_length(0), 1 + sum(letters))
        random = Random(times)
        for number in range(2 * high + 1):
            self.check_number(far, number, begins, random.randrange(many[number]))
        self.assertEqual(far.stretch(0, begins[-1], 10000), ())
        self.assertEqual(far.stretch(0, begins[-1] - 1, 10000), (2 * high,))
        self.assertEqual(far.before(0, 0, begins[-1]), 1)
        return far, begins

    def check_number(self, far, number, begins, index):
        begin, end = begins[number], begins[number + 1]
        for place in (begin, begin + index, end - 1):
            self.assertEqual(far.at(0, place), number)
            self.assertEqual(far.before(0, number, place), place - begin)
            self.assertEqual(far.place_of(0, number, place - begin), place)
        self.assertEqual(far.before(0, number, end), end - begin)
        self.assertEqual(far.before(0, number, begins[-1]), end - begin)
        self.assertEqual(far.before(0, number, 0), 0)
        self.assertIsNone(far.place_of(0, number, end - begin))
        start = max(0, begin - 5000)
        plain = tuple(
            next(k for k in range(len(begins)) if begins[k + 1] > place)
            for place in range(start, min(start + 10000, begins[-1])))
        self.assertEqual(far.stretch(0, start, 10000), plain)
        self.assertEqual(far.stretch(0, start, 9999), plain[:9999])

    def test_some_ten_to_the_seventeen(self):
        far, begins = self.check(7, 20)
        self.assertGreater(far.length(0), 10 ** 17)
        for place in (begins[-1], begins[-1] + 1, FAR):
            with self.assertRaises(BadNumber):
                far.at(0, place)
        for place in (begins[-1] + 1, FAR):
            with self.assertRaises(BadNumber):
                far.stretch(0, place, 1)
            with self.assertRaises(BadNumber):
                far.before(0, 0, place)

    def test_far_more(self):
        far, _ = self.check(300, 28)
        self.assertGreater(far.length(0), 10 ** 69)

    def test_a_long_word(self):
        far = Far(hill([4999], [4999]))
        self.assertEqual(far.stretch(0, 0, 10000), (0,) + (1,) * 4999 + (2,))
        self.assertEqual((far.length(0), far.at(0, 5000), far.before(0, 1, 5000)), (5001, 2, 4999))


class TestErrors(unittest.TestCase):

    def setUp(self):
        self.far = Far(beside([EXAMPLE, ONES]))

    def methods(self, k, place=0):
        far = self.far
        return [
            lambda: far.length(k), lambda: far.text_length(k), lambda: far.numbers_in(k), lambda: far.at(k, place),
            lambda: far.stretch(k, place, place), lambda: far.before(k, place, place),
            lambda: far.place_of(k, place, place)]

    def test_numbers_of_prime_rows(self):
        for k in WRONG + [2, 3, FAR]:
            for place in (0, None, FAR):
                for method in self.methods(k, place):
                    with self.assertRaises(BadNumber):
                        method()

    def test_no_prime_rows(self):
        self.far = Far(NOTHING)
        for method in self.methods(0):
            with self.assertRaises(BadNumber):
                method()

    def test_places(self):
        for place in WRONG + [2, 3, FAR]:
            with self.assertRaises(BadNumber):
                self.far.at(0, place)
        for place in WRONG + [3, FAR]:
            with self.assertRaises(BadNumber):
                self.far.stretch(0, place, 1)
            with self.assertRaises(BadNumber):
                self.far.before(0, 1, place)
        self.assertEqual(self.far.stretch(0, 2, 1), ())
        self.assertEqual(self.far.before(0, 1, 2), 1)

    def test_how_many(self):
        self.assertEqual(self.far.stretch(0, 0, 10000), (0, 1))
        for many in WRONG + [10001, FAR]:
            with self.assertRaises(BadNumber):
                self.far.stretch(0, 0, many)

    def test_numbers_of_words(self):
        self.assertEqual((self.far.before(0, 2, 2), self.far.place_of(0, 2, 0)), (0, None))
        for number in WRONG + [3, 4, FAR]:
            with self.assertRaises(BadNumber):
                self.far.before(0, number, 0)
            with self.assertRaises(BadNumber):
                self.far.place_of(0, number, 0)

    def test_indexes(self):
        self.assertIsNone(self.far.place_of(0, 0, FAR))
        for index in WRONG:
            with self.assertRaises(BadNumber):
                self.far.place_of(0, 0, index)

    def test_pairs(self):
        for pair in NOT_EVEN:
            with self.assertRaises(BadBook):
                Far(pair)
        for pair in EVEN_NOT_APART:
            with self.assertRaises(NotApart):
                Far(pair)
        for pair in (beside([turning(7), turning(11), turning(13)]), ladder(4998, (5, 5))):
            with self.assertRaises(TooLong):
                Far(pair)


class TestNew(unittest.TestCase):

    def test_lists_are_new(self):
        for pair in (EXAMPLE, beside([ONES, ONES])):
            far = Far(pair)
            for k in range(far.count):
                numbers = far.numbers_in(k)
                kept = list(numbers)
                numbers[0] = 99
                numbers.append(1)
                self.assertEqual(far.numbers_in(k), kept)
                self.assertEqual(far.before(k, 0, far.length(k)), kept[0])

    def test_two_by_turns(self):
        pairs = [hill([2, 3], [3, 2]), hill([3, 2], [2, 3])]
        rows = [hill_row([2, 3], [3, 2]), hill_row([3, 2], [2, 3])]
        fars = [Far(pair) for pair in pairs]
        for place in range(12):
            for far, row in zip(fars, rows):
                self.assertEqual(far.at(0, place), row[place])
                for number in range(5):
                    self.assertEqual(far.before(0, number, place), row[:place].count(number))
                self.assertEqual(far.place_of(0, row[place], row[:place].count(row[place])), place)


if __name__ == "__main__":
    unittest.main()
