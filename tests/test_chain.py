"""[3.1] to [3.5], [3.13]: lesser pairs, the chain, alike letters and ends of words."""

import unittest
from unittest.mock import patch

from samples import (
    EXAMPLE, NOT_APART, NOT_EVEN, NOTHING, alike_rows, beside, circle, even_pairs, ladder, shrinking, small_books,
    some_pairs, turning)

from alikeread.blocks import block
from alikeread.books import Book, Pair, same_pair
from alikeread.chain import alike_letters, chain, lesser, suffixes
from alikeread.errors import BadBook, NotApart, TooLong

FUNCTIONS = (lesser, chain, alike_letters)


def plain_lesser(pair):
    found = [block(pair, letter) for letter in range(pair.letters)]
    found = [rows for rows in found if rows is not None]
    size = pair.first.size
    return Pair(Book(size, [first for first, _ in found]), Book(size, [second for _, second in found]))


class TestLesser(unittest.TestCase):

    def test_words_are_the_rows_of_the_blocks(self):
        for pair in even_pairs():
            below = lesser(pair)
            self.assertTrue(same_pair(below, plain_lesser(pair)))
            self.assertEqual(below.letters, pair.first.size)
            self.assertTrue(below.is_apart() and below.is_even())

    def test_example(self):
        below = lesser(EXAMPLE)
        self.assertEqual(below.first.words(), [(0, 1), (1, 1)])
        self.assertEqual(below.second.words(), [(0, 1), (1,)])
        below = lesser(below)
        self.assertEqual((below.first.words(), below.second.words()), ([(0,), (1,)], [(0,), (1, 1)]))

    def test_alike_rows_have_one_below(self):
        for pair in even_pairs()[::2]:
            below = lesser(pair)
            rows = alike_rows(pair, 5)
            found = [below.first.row_of(row) for row in rows]
            self.assertEqual(found, [below.second.row_of(row) for row in rows])
            lower = alike_rows(below, 5)
            for row, under in zip(rows, found):
                self.assertIn(under, lower)
                self.assertLessEqual(len(under), len(row))
                stays = all(number in alike_letters(below) and len(below.first.word(number)) == 1 for number in under)
                self.assertEqual(len(under) == len(row), stays)
            for under in lower:
                row = below.first.read(under)
                self.assertEqual(pair.first.read(row), pair.second.read(row))

    def test_nothing_is_left(self):
        below = lesser(NOTHING)
        self.assertEqual((below.letters, below.first.size, below.second.size), (0, 0, 0))
        below = lesser(Pair(Book(3, []), Book(3, [])))
        self.assertEqual((below.letters, below.first.size), (0, 0))
        below = lesser(Pair(Book(3, [(0,)]), Book(3, [(1,)])))
        self.assertEqual((below.letters, below.first.size), (1, 0))

    def test_rows_of_five_thousand_numbers(self):
        below = lesser(ladder(4997, (5,)))
        self.assertEqual([len(below.first.word(0)), len(below.second.word(0))], [5000, 5000])
        for ones, ending in (4998, (5,)), (4997, (5, 5)):
            self.assertIsNotNone(block(ladder(ones, ending), 0))
            for pair in (ladder(ones, ending), ladder(ones, ending).swapped()):
                for function in (lesser, chain):
                    with self.assertRaises(TooLong):
                        function(pair)

    def test_walks_that_are_too_long(self):
        for ending in (5, 5), (5, 5, 2), (5, 5, 4):
            for function in (lesser, chain):
                with self.assertRaises(TooLong):
                    function(ladder(4998, ending))
        # One rest fewer, and the letter 0 has no block, since its walk goes round.
        below = lesser(ladder(4998, (5, 2)))
        self.assertEqual(below.first.words(), [(1,), (3,), (5,)])
        self.assertEqual(below.second.words(), [(1,), (3,), (4,)])


class TestChain(unittest.TestCase):

    def check(self, pair, found):
        pairs, home = found
        self.assertIsInstance(found, tuple)
        self.assertIsInstance(pairs, list)
        self.assertTrue(same_pair(pairs[0], pair))
        for one, other in zip(pairs, pairs[1:] + [pairs[home]]):
            self.assertTrue(same_pair(lesser(one), other))
        keys = {(one.letters, tuple(one.first.words()), tuple(one.second.words())) for one in pairs}
        self.assertEqual(len(keys), len(pairs))

    def test_small_pairs(self):
        for pair in even_pairs():
            found = chain(pair)
            self.check(pair, found)
            swapped = chain(pair.swapped())
            self.assertEqual((len(swapped[0]), swapped[1]), (len(found[0]), found[1]))
            for one, other in zip(found[0], swapped[0]):
                self.assertTrue(same_pair(one, other.swapped()))

    def test_example(self):
        pairs, home = chain(EXAMPLE)
        self.assertEqual((len(pairs), home), (4, 2))
        self.assertEqual((pairs[3].first.words(), pairs[3].second.words()), ([(0,), (1, 1)], [(0,), (1,)]))
        self.assertEqual([alike_letters(pair) for pair in pairs], [(), (0,), (0,), (0,)])

    def test_home_at_once(self):
        for pair in (NOTHING, Pair(Book(1, [(0,)]), Book(1, [(0,)]))):
            pairs, home = chain(pair)
            self.assertEqual((len(pairs), home), (1, 0))
        pairs, home = chain(Pair(Book(3, []), Book(3, [])))
        self.assertEqual([pair.letters for pair in pairs] + [home], [3, 0, 1])

    def test_more_than_a_thousand_pairs(self):
        pair = beside([turning(2), turning(5), turning(7), turning(9)])
        found = chain(pair)
        self.assertEqual((len(found[0]), found[1]), (1260, 0))
        self.check(pair, found)
        pair = beside([turning(2), turning(5), turning(7), turning(9), shrinking(30)])
        found = chain(pair)
        self.assertEqual((len(found[0]), found[1]), (1290, 30))
        self.check(pair, found)

    def test_two_thousand_pairs(self):
        parts = [turning(2), turning(5), turning(9), turning(11)]
        for shrink, many in (1, 1981), (19, 1999), (20, 2000):
            pair = beside(parts + [shrinking(shrink)])
            found = chain(pair)
            self.assertEqual((len(found[0]), found[1]), (many, shrink))
        self.check(pair, found)
        for shrink in (21, 22, 30):
            with self.assertRaises(TooLong):
                chain(beside(parts + [shrinking(shrink)]))
        with self.assertRaises(TooLong):
            chain(beside([turning(7), turning(11), turning(13)]))

    def test_circles_side_by_side(self):
        for sizes, many in ((2, 3), 12), ((2, 9, 5), 180), ((4, 6), 24), ((2, 9, 5, 11), 1980):
            pair = beside([circle(size) for size in sizes])
            found = chain(pair)
            self.assertEqual((len(found[0]), found[1]), (many, 0))
            self.assertEqual({one.first.size for one in found[0]}, {sum(sizes)})
            self.check(pair, found)

    def test_too_long_further_down(self):
        # With a smaller limit than the one promised, since rows that grow so much are rare.
        many = 0
        for pair in even_pairs() + list(some_pairs(13, 2000, 5, 4, True)):
            rows = [one.first.words() + one.second.words() for one in chain(pair)[0][1:]]
            longest = [max([len(row) for row in found], default=0) for found in rows]
            if longest and max(longest) > longest[0]:
                many += 1
                with patch("alikeread.chain.LONGEST_WORD", longest[0]):
                    self.assertTrue(same_pair(lesser(pair), plain_lesser(pair)))
                    with self.assertRaises(TooLong):
                        chain(pair)
        self.assertGreater(many, 0)

    def test_the_list_is_new(self):
        pairs, _ = chain(EXAMPLE)
        pairs.clear()
        self.assertEqual(len(chain(EXAMPLE)[0]), 4)
        words = EXAMPLE.first.words(), EXAMPLE.second.words()
        self.assertEqual(words, ([(0, 1), (1,)], [(0,), (1, 1)]))

    def test_ends_do_not_become_more(self):
        for pair in even_pairs():
            below = lesser(pair)
            self.assertLessEqual(suffixes(below.first), suffixes(pair.second))
            self.assertLessEqual(suffixes(below.second), suffixes(pair.first))


class TestAlikeLetters(unittest.TestCase):

    def test_plain(self):
        for pair in even_pairs():
            size = pair.first.size
            plain = tuple(k for k in range(size) if pair.first.word(k) == pair.second.word(k))
            self.assertEqual(alike_letters(pair), plain)
        self.assertEqual(alike_letters(NOTHING), ())
        words = [(2, 0), (1,), (0, 1)]
        self.assertEqual(alike_letters(Pair(Book(3, words), Book(3, [(2, 0), (1, 0), (0, 1)]))), (0, 2))

    def test_each_gives_one_below(self):
        for pair in even_pairs():
            alike = alike_letters(pair)
            for number in alike:
                self.assertEqual(block(pair, pair.first.word(number)[0]), ((number,), (number,)))
            self.assertGreaterEqual(len(alike_letters(lesser(pair))), len(alike))
            pairs, home = chain(pair)
            self.assertEqual(len({len(alike_letters(one)) for one in pairs[home:]}), 1)


class TestSuffixes(unittest.TestCase):

    def test_plain(self):
        books = list(small_books(2, 3, 3)) + [pair.first for pair in some_pairs(12, 100, 4, 9)]
        for book in books:
            ends = {word[k:] for word in book.words() for k in range(1, len(word))}
            self.assertEqual(suffixes(book), len(ends))

    def test_edges(self):
        self.assertEqual(suffixes(Book(0, [])), 0)
        self.assertEqual(suffixes(Book(2, [(0,), (1,)])), 0)
        self.assertEqual(suffixes(Book(2, [(0, 1), (1,)])), 1)
        self.assertEqual(suffixes(Book(2, [(0, 1), (1, 1), (0, 0, 1)])), 2)
        # This book does not start apart; the end of one word is the whole of another one.
        self.assertEqual(suffixes(Book(2, [(0, 1), (0, 1), (1, 0, 1)])), 2)
        self.assertEqual(suffixes(Book(1, [(0,) * 5000] * 60)), 4999)
        self.assertEqual(suffixes(Book(60, [(0,) * 4999 + (k,) for k in range(60)])), 60 * 4999)


class TestErrors(unittest.TestCase):

    def test_not_even_comes_first(self):
        for pair in NOT_EVEN:
            for function in FUNCTIONS:
                with self.assertRaises(BadBook):
                    function(pair)

    def test_not_apart(self):
        odd = Book(2, [(0,), (0, 1)])
        even = Book(2, [(1,), (0,)])
        for pair in (Pair(odd, even), Pair(even, odd), Pair(odd, odd)):
            for function in FUNCTIONS:
                with self.assertRaises(NotApart):
                    function(pair)
        for pair in NOT_APART:
            for function in FUNCTIONS:
                with self.assertRaises(BadBook):
                    function(pair)

    def test_not_apart_comes_ahead_of_too_long(self):
        pair = ladder(4998, (5, 5))
        words = pair.first.words()
        words[5] = (0,)
        for function in FUNCTIONS:
            with self.assertRaises(NotApart):
                function(Pair(Book(7, words), pair.second))
            with self.assertRaises(BadBook):
                function(Pair(Book(7, words[:5] + [(0,), (0,)]), pair.second))


if __name__ == "__main__":
    unittest.main()
