"""[2.6] to [2.9], [2.11]: blocks, and the common texts that are made of them."""

import unittest
from itertools import product

from samples import (
    EXAMPLE, FAR, NO_INTEGERS, NO_TUPLES, NOT_APART, NOTHING, books_apart, ladder, pairs_apart, some_pairs,
    tuples_below)

from alikeread.blocks import block, blocks, is_common, made, split
from alikeread.books import Book, Pair
from alikeread.errors import BadLetter, BadRow, NotApart, TooLong
from alikeread.rests import walk

# A pair whose letter 0 has no block, and whose letter 1 has one.
HALF = Pair(Book(2, [(0,), (1,)]), Book(2, [(0, 0), (1,)]))
# Letter 0 has a walk that is too long, letter 1 a block, letter 6 no word in the first book.
FAR_PAIR = ladder(4998, (5, 5))


def plain_common(pair, most):
    """Return the common texts with at most so many letters, each with both rows, by trying all texts."""
    found = {}
    for text in tuples_below(pair.letters, most, 1):
        rows = pair.first.row_of(text), pair.second.row_of(text)
        if None not in rows:
            found[text] = rows
    return found


def small_pairs():
    return list(pairs_apart(1, 4)) + list(pairs_apart(2, 2)) + list(some_pairs(6, 150, 3))


class TestBlock(unittest.TestCase):

    def test_block_is_where_the_walk_ends(self):
        for pair in list(pairs_apart(2, 3)) + list(some_pairs(7, 200, 5)):
            found = []
            for letter in range(pair.letters):
                end, _, first, second = walk(pair, letter)
                if end == "block":
                    self.assertEqual(block(pair, letter), (first, second))
                    found.append((letter, first, second))
                else:
                    self.assertIsNone(block(pair, letter))
            self.assertEqual(blocks(pair), found)

    def test_block_is_the_shortest_common_text(self):
        for pair in small_pairs():
            shortest = {}
            for text, rows in plain_common(pair, 6).items():
                if all(text[:k] not in shortest.values() for k in range(1, len(text))):
                    shortest.setdefault(text[0], text)
                    self.assertEqual(block(pair, text[0]), rows)
            for letter, first, _ in blocks(pair):
                text = pair.first.read(first)
                self.assertEqual(shortest.get(letter, text), text)
                self.assertEqual(letter in shortest, len(text) <= 6)

    def test_example(self):
        self.assertEqual(block(EXAMPLE, 0), ((0, 1), (0, 1)))
        self.assertEqual(block(EXAMPLE, 1), ((1, 1), (1,)))
        self.assertEqual(blocks(EXAMPLE), [(0, (0, 1), (0, 1)), (1, (1, 1), (1,))])

    def test_no_blocks(self):
        self.assertEqual(blocks(NOTHING), [])
        self.assertEqual(blocks(Pair(Book(2, [(0,), (1,)]), Book(2, []))), [])
        self.assertEqual(blocks(HALF), [(0, (0, 0), (0,)), (1, (1,), (1,))])
        pair = Pair(Book(2, [(0, 0), (1,)]), Book(2, [(0, 1), (1,)]))
        self.assertEqual((block(pair, 0), block(pair, 1), blocks(pair)), (None, ((1,), (1,)), [(1, (1,), (1,))]))

    def test_far_ends(self):
        self.assertEqual(len(block(ladder(4998, (5,)), 0)[1]), 5001)
        self.assertIsNone(block(ladder(4998, (5, 2)), 0))
        self.assertEqual(block(FAR_PAIR, 1), ((1,), (1,)))
        self.assertIsNone(block(FAR_PAIR, 6))
        for wrong in (lambda: block(FAR_PAIR, 0), lambda: blocks(FAR_PAIR)):
            with self.assertRaises(TooLong):
                wrong()

    def test_values_that_are_no_letters(self):
        for pair in (EXAMPLE, NOTHING, FAR_PAIR):
            for value in NO_INTEGERS + [-1, -FAR, FAR, pair.letters, pair.letters + 1]:
                with self.assertRaises(BadLetter):
                    block(pair, value)

    def test_the_list_is_new(self):
        found = blocks(EXAMPLE)
        found[0] = None
        found.append(7)
        self.assertEqual(blocks(EXAMPLE), [(0, (0, 1), (0, 1)), (1, (1, 1), (1,))])


class TestCommon(unittest.TestCase):

    def test_all_short_texts(self):
        for pair in small_pairs():
            common = plain_common(pair, 6)
            for text in tuples_below(pair.letters, 6):
                letters = split(pair, text)
                self.assertEqual(letters is not None, text in common)
                self.assertIs(is_common(pair, text), text in common)
                if letters is not None:
                    self.assertEqual(made(pair, letters), (text,) + common[text])

    def test_four_letters(self):
        pair = Pair(Book(4, [(0, 1), (1,), (2, 3), (3,)]), Book(4, [(0,), (1, 1), (2,), (3, 2, 3)]))
        common = plain_common(pair, 7)
        self.assertGreater(len(common), 10)
        for text in tuples_below(4, 7):
            self.assertIs(is_common(pair, text), text in common)

    def test_texts_fall_into_blocks_in_one_way(self):
        for pair in list(some_pairs(8, 60, 4)) + list(pairs_apart(2, 2)):
            heads = [letter for letter, _, _ in blocks(pair)]
            for many in range(4):
                for letters in product(heads, repeat=many):
                    text, first, second = made(pair, letters)
                    self.assertEqual((pair.first.read(first), pair.second.read(second)), (text, text))
                    self.assertEqual(split(pair, text), letters if letters else None)
                    self.assertEqual(first, sum((block(pair, letter)[0] for letter in letters), ()))
                    self.assertEqual(second, sum((block(pair, letter)[1] for letter in letters), ()))

    def test_example(self):
        self.assertEqual(split(EXAMPLE, (1, 1, 0, 1, 1)), (1, 0))
        self.assertEqual((split(EXAMPLE, (0, 1)), is_common(EXAMPLE, (0, 1))), (None, False))
        self.assertEqual(made(EXAMPLE, (1, 0)), ((1, 1, 0, 1, 1), (1, 1, 0, 1), (1, 0, 1)))

    def test_the_empty_text(self):
        for pair in (EXAMPLE, NOTHING, HALF, FAR_PAIR):
            self.assertIsNone(split(pair, ()))
            self.assertIs(is_common(pair, ()), False)
            self.assertEqual(made(pair, ()), ((), (), ()))

    def test_walks_that_are_too_long(self):
        self.assertEqual(split(FAR_PAIR, (1, 1)), (1, 1))
        for wrong in (0,), (1, 0), (1, 1, 0, 6):
            for function in (split, is_common, made):
                with self.assertRaises(TooLong):
                    function(FAR_PAIR, wrong)
        # The letter 0 does not come up, since nothing can be read from the letter 6 on.
        self.assertIsNone(split(FAR_PAIR, (1, 6, 0)))
        self.assertIs(is_common(FAR_PAIR, (6, 0)), False)

    def test_a_block_that_is_longer_than_the_text(self):
        pair = ladder(4998, (5,))
        text = pair.first.read(block(pair, 0)[0])
        self.assertEqual(split(pair, text), (0,))
        self.assertEqual(split(pair, (1,) + text + (3,)), (1, 0, 3))
        self.assertIsNone(split(pair, text[:-1]))
        self.assertIsNone(split(pair, text[:-1] + (4,)))
        # The text of this block has 50 million letters.
        pair = Pair(Book(1, [(0,) * 4999]), Book(1, [(0,) * 5000]))
        self.assertEqual(len(block(pair, 0)[0]), 5000)
        self.assertIsNone(split(pair, (0,) * 5000))
        self.assertIs(is_common(pair, (0,) * 100000), False)
        with self.assertRaises(TooLong):
            made(pair, (0,))

    def test_longest_texts(self):
        pair = Pair(Book(2, [(0,), (1,)]), Book(2, [(1,), (0,)]))
        self.assertEqual(split(pair, (0, 1) * 50000), (0, 1) * 50000)
        self.assertEqual(made(pair, (1,) * 100000), ((1,) * 100000, (1,) * 100000, (0,) * 100000))
        self.assertIsNone(split(EXAMPLE, (1,) * 99999))
        for many in (100001, 200000):
            with self.assertRaises(TooLong):
                made(pair, (0,) * many)
        self.assertEqual(len(made(EXAMPLE, (0,) * 33332 + (1, 1))[0]), 100000)
        with self.assertRaises(TooLong):
            made(EXAMPLE, (0,) * 33333 + (1,))

    def test_values_that_are_no_texts(self):
        for pair in (EXAMPLE, FAR_PAIR):
            wrong = NO_TUPLES + [(pair.letters,), (1, FAR), (1, pair.letters), (1, True), [1], (1,) * 7 + (False,)]
            for value in wrong:
                for function in (split, is_common, made):
                    with self.assertRaises(BadRow):
                        function(pair, value)
        for function in (split, is_common, made):
            with self.assertRaises(BadRow):
                function(NOTHING, (0,))
            # The letters are looked at ahead of the walks.
            with self.assertRaises(BadRow):
                function(FAR_PAIR, (0, 7))

    def test_letters_without_a_block(self):
        pair = Pair(Book(3, [(0, 0), (1,)]), Book(3, [(0, 1), (1,), (2,)]))
        for letters in (0,), (2,), (1, 0), (2, 1), (1,) * 100001 + (0,):
            with self.assertRaises(BadRow):
                made(pair, letters)
        self.assertEqual(made(pair, (1, 1)), ((1, 1), (1, 1), (1, 1)))

    def test_books_of_unlike_size(self):
        pair = Pair(Book(3, [(0, 1, 2)]), Book(3, [(2,), (1,), (0,)]))
        self.assertEqual(made(pair, (0, 0)), ((0, 1, 2, 0, 1, 2), (0, 0), (2, 1, 0, 2, 1, 0)))
        self.assertEqual(split(pair, (0, 1, 2, 0, 1, 2)), (0, 0))

    def test_not_apart_comes_first(self):
        for pair in NOT_APART:
            with self.assertRaises(NotApart):
                blocks(pair)
            for value in [0, (0,), (), None, (5,), -1, True]:
                for function in (block, split, is_common, made):
                    with self.assertRaises(NotApart):
                        function(pair, value)

    def test_arguments_are_not_changed(self):
        words = [(0, 1), (1,)], [(0,), (1, 1)]
        pair = Pair(Book(2, words[0]), Book(2, words[1]))
        blocks(pair), split(pair, (0, 1, 1)), made(pair, (0, 1)), walk(pair, 0)
        self.assertEqual((pair.first.words(), pair.second.words()), words)
        self.assertEqual((pair.letters, pair.first.size, pair.second.size), (2, 2, 2))


class TestOneBook(unittest.TestCase):

    def test_a_book_with_itself(self):
        for book in books_apart(2, 3):
            pair = Pair(book, book)
            found = [(word[0], (number,), (number,)) for number, word in enumerate(book.words())]
            self.assertEqual(blocks(pair), sorted(found))


if __name__ == "__main__":
    unittest.main()
