"""[2.10]: the common texts counted, and in order."""

import unittest

from samples import (
    EXAMPLE, FAR, NO_INTEGERS, NO_TUPLES, NOT_APART, NOTHING, ladder, pairs_apart, some_pairs, tuples_below)

from alikeread.blocks import number_of, text_at, texts_of
from alikeread.books import Book, Pair
from alikeread.errors import BadNumber, BadRow, NotApart, TooLong
from alikeread.rests import walk

NO_BLOCKS = Pair(Book(2, [(0, 0), (1, 0)]), Book(2, [(0, 1), (1, 1)]))
FOUR = Pair(Book(4, [(0, 1), (1,), (2, 3), (3,)]), Book(4, [(0,), (1, 1), (2,), (3, 2, 3)]))
PLAIN = Pair(Book(60, [(k,) for k in range(60)]), Book(60, [(59 - k,) for k in range(60)]))
# The one block of this pair has a text of 999 or 1000 or 1001 letters.
LONG = {many: Pair(Book(2, [(1,) + (0,) * (many - 1)]), Book(2, [(1,), (0,)])) for many in (999, 1000, 1001)}


def plain_texts(pair, most):
    """Return the common texts with at most so many letters, in order, by trying all texts."""
    return [
        text for text in tuples_below(pair.letters, most, 1)
        if pair.first.row_of(text) is not None and pair.second.row_of(text) is not None]


class TestAgainstAllTexts(unittest.TestCase):

    def check(self, pair, most):
        texts = plain_texts(pair, most)
        for length in range(most + 1):
            self.assertEqual(texts_of(pair, length), len([text for text in texts if len(text) == length]))
        for number, text in enumerate(texts):
            self.assertEqual(text_at(pair, number), text)
        before = 0
        for text in tuples_below(pair.letters, most):
            self.assertEqual(number_of(pair, text), before)
            before += text in texts

    def test_one_letter(self):
        for pair in pairs_apart(1, 5):
            self.check(pair, 12)

    def test_two_letters(self):
        for pair in list(pairs_apart(2, 2)) + [EXAMPLE, NO_BLOCKS]:
            self.check(pair, 6)

    def test_three_letters(self):
        for pair in some_pairs(9, 60, 3):
            self.check(pair, 5)

    def test_four_letters(self):
        self.check(FOUR, 6)
        for pair in some_pairs(10, 20, 4):
            self.check(pair, 4)


class TestEdges(unittest.TestCase):

    def test_example(self):
        self.assertEqual([texts_of(EXAMPLE, length) for length in range(6)], [0, 0, 1, 1, 1, 2])

    def test_lengths(self):
        self.assertEqual(texts_of(PLAIN, 0), 0)
        self.assertEqual(texts_of(PLAIN, 1000), 60 ** 1000)
        for length in NO_INTEGERS + [-1, 1001, 1002, FAR, -FAR]:
            for pair in (EXAMPLE, NOTHING, PLAIN):
                with self.assertRaises(BadNumber):
                    texts_of(pair, length)

    def test_numbers_of_any_size(self):
        ahead = sum(60 ** length for length in range(1, 1000))
        last = ahead + 60 ** 1000 - 1
        self.assertEqual(text_at(PLAIN, ahead - 1), (59,) * 999)
        self.assertEqual(text_at(PLAIN, ahead), (0,) * 1000)
        self.assertEqual(text_at(PLAIN, ahead + 61), (0,) * 998 + (1, 1))
        self.assertEqual(text_at(PLAIN, last), (59,) * 1000)
        self.assertEqual(number_of(PLAIN, (59,) * 1000), last)
        for number in (last + 1, last * 60, FAR):
            with self.assertRaises(TooLong):
                text_at(PLAIN, number)
            self.assertIsNone(text_at(NO_BLOCKS, number))
            self.assertIsNone(text_at(NOTHING, number))

    def test_there_and_back(self):
        number = 1
        for _ in range(150):
            number = number * 7 + 3
            text = text_at(FOUR, number)
            self.assertEqual(number_of(FOUR, text), number)

    def test_values_that_are_no_numbers(self):
        for number in NO_INTEGERS + [-1, -FAR]:
            for pair in (EXAMPLE, NOTHING, NO_BLOCKS, PLAIN):
                with self.assertRaises(BadNumber):
                    text_at(pair, number)

    def test_texts_of_a_thousand_letters(self):
        self.assertEqual(text_at(LONG[999], 0), (1,) + (0,) * 998)
        self.assertEqual(text_at(LONG[1000], 0), (1,) + (0,) * 999)
        self.assertEqual((texts_of(LONG[1000], 999), texts_of(LONG[1000], 1000)), (0, 1))
        self.assertEqual(texts_of(LONG[1001], 1000), 0)
        for pair, number in (LONG[999], 1), (LONG[1000], 1), (LONG[1001], 0):
            with self.assertRaises(TooLong):
                text_at(pair, number)
        self.assertEqual(number_of(LONG[1000], (1,) + (0,) * 999), 0)
        self.assertEqual(number_of(LONG[1000], (1,) + (0,) * 998 + (1,)), 1)
        self.assertEqual(number_of(LONG[1000], (1,) * 1000), 1)
        self.assertEqual(number_of(LONG[999], (0,) * 1000), 1)
        self.assertEqual(number_of(LONG[1001], (1,) * 1000), 0)

    def test_rows_of_more_than_a_thousand_letters(self):
        for pair in (EXAMPLE, NO_BLOCKS):
            with self.assertRaises(TooLong):
                number_of(pair, (0,) * 1001)
            for value in ((0,) * 1001 + (2,), (0,) * 1000 + (True,), (None,) * 1001):
                with self.assertRaises(BadRow):
                    number_of(pair, value)

    def test_values_that_are_no_texts(self):
        for pair in (EXAMPLE, NO_BLOCKS):
            for value in NO_TUPLES + [(2,), (0, 2), (0, FAR), [0], (1, True)]:
                with self.assertRaises(BadRow):
                    number_of(pair, value)
        with self.assertRaises(BadRow):
            number_of(NOTHING, (0,))
        self.assertEqual(number_of(NOTHING, ()), 0)

    def test_walks_that_are_too_long_tell_no_short_texts(self):
        # The block of letter 0 has more than 10000 rests, that of letter 1 has none.
        pair = ladder(4998, (5, 5))
        self.assertEqual([texts_of(pair, length) for length in (0, 1, 2)], [0, 3, 9])
        self.assertEqual([text_at(pair, number) for number in (0, 1, 2, 3)], [(1,), (3,), (5,), (1, 1)])
        self.assertEqual(number_of(pair, (6,)), 3)
        self.assertEqual(number_of(pair, (0,) * 1000), sum(3 ** length for length in range(1, 1000)))

    def test_a_walk_that_is_too_long_alone(self):
        for ending, has_block in ((5, 5), True), ((5, 5, 2), False), ((5, 5, 4), False):
            first = [(0,) + (1,) * 4998 + (2,), (3,), (4,) + ending]
            pair = Pair(Book(6, first), Book(6, [(0,), (1,), (2,) + (3,) * 4998 + (4,), (5,)]))
            with self.assertRaises(TooLong):
                walk(pair, 0)
            self.assertEqual(texts_of(pair, 1000), 0)
            self.assertEqual(number_of(pair, (5,) * 1000), 0)
            for number in (0, 1, FAR):
                if has_block:
                    with self.assertRaises(TooLong):
                        text_at(pair, number)
                else:
                    self.assertIsNone(text_at(pair, number))

    def test_not_apart_comes_first(self):
        for pair in NOT_APART:
            for value in [0, 1, (), (0,), None, -1, True, 1001, (0,) * 1001, (9,)]:
                for function in (texts_of, text_at, number_of):
                    with self.assertRaises(NotApart):
                        function(pair, value)


if __name__ == "__main__":
    unittest.main()
