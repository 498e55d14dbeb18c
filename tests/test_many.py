"""[5.1] to [5.4], [5.11]: rows that several books read alike, and their prime rows."""

import unittest
from itertools import permutations, product

from samples import (
    EVEN_NOT_APART, EXAMPLE, FAR, NO_TUPLES, beside, books_apart, even_pairs, hill, hill_row, ladder, some_lists,
    tuples_below, turning)

from alikeread.books import Book, Pair, same
from alikeread.errors import BadBook, BadRow, NotApart, TooLong
from alikeread.many import are_alike, primes_of_all
from alikeread.primes import primes

G, H = EXAMPLE.first, EXAMPLE.second
TWO_WORDS = [book for book in books_apart(2, 2) if book.size == 2]
# Each reads (0, 1, 1) from the row (0, 1).
ALL_ALIKE = [G, H, Book(2, [(0, 1), (1,)]), Book(2, [(0,), (1, 1)])]
UNLIKE = [
    [], [Book(2, [(0,)]), Book(2, [(0,), (1,)])], [Book(2, [(0,)]), Book(3, [(0,)])], [G, H, Book(3, [(0, 1), (1,)])],
    [Book(2, []), Book(3, [])], [G, H, G, Book(2, [(0,)])], [Book(0, []), Book(1, []), Book(0, [])],
]


def grown(ones, twos, threes, fours):
    """Return two books that read the row (0, 1) alike if the first two numbers add up to what the others do."""
    return [Book(2, [(0,) + (1,) * ones, (1,) * twos]), Book(2, [(0,) + (1,) * threes, (1,) * fours])]


def cut(book, place):
    """Return the book with three letters for each letter, and each word cut into two ones at a place."""
    words = [tuple(3 * letter + k for letter in word for k in range(3)) for word in book.words()]
    return Book(3 * book.letters, [part for word in words for part in (word[:place], word[place:])])


def plain_alike(books, most):
    """Return the rows with at most so many numbers that all books read alike."""
    rows = tuples_below(books[0].size, most, 1)
    return [row for row in rows if len({book.read(row) for book in books}) == 1]


def plain_primes(books, most):
    rows = set(plain_alike(books, most))
    return sorted(row for row in rows if not any(row[:k] in rows for k in range(1, len(row))))


class TestAreAlike(unittest.TestCase):

    def test_several_books(self):
        for books in list(some_lists(1, 60, 3)) + [ALL_ALIKE, [G, H], [G, G, H]]:
            for row in tuples_below(books[0].size, 4):
                plain = len(row) > 0 and all(book.read(row) == books[0].read(row) for book in books)
                self.assertIs(are_alike(books, row), plain)

    def test_one_book(self):
        for book in TWO_WORDS:
            self.assertIs(are_alike([book], ()), False)
            for row in tuples_below(2, 3, 1):
                self.assertIs(are_alike([book], row), True)

    def test_books_need_not_start_apart(self):
        one = Book(1, [(0,), (0, 0)])
        other = Book(1, [(0, 0), (0,)])
        self.assertIs(are_alike([one, other, one], (0, 1)), True)
        self.assertIs(are_alike([one, other, one], (0, 1, 1)), False)
        self.assertIs(are_alike([one, one, other], (1,)), False)

    def test_what_comes_first(self):
        for books in UNLIKE:
            for row in [(), (0,), (9,), None, (0,) * 100001]:
                with self.assertRaises(BadBook):
                    are_alike(books, row)
        for books in ([G], [G, H], [Book(1, [(0,) * 5000])] * 2):
            for value in NO_TUPLES + [(2,), (0, 2), (0, FAR), [0, 1], (0, True), (0,) * 100001 + (2,)]:
                with self.assertRaises(BadRow):
                    are_alike(books, value)

    def test_texts_that_are_too_long(self):
        short, long = Book(1, [(0,)]), Book(1, [(0,) * 5000])
        unlike = Book(2, [(0,), (1,)]), Book(2, [(1,), (0, 0)])
        self.assertIs(are_alike([long, long], (0,) * 20), True)
        self.assertIs(are_alike([short, long], (0,) * 20), False)
        self.assertIs(are_alike([short], (0,) * 100000), True)
        for books in [long], [short, long], [long, short], [short, short, long]:
            with self.assertRaises(TooLong):
                are_alike(books, (0,) * 21)
        with self.assertRaises(TooLong):
            are_alike([short], (0,) * 100001)
        self.assertIs(are_alike(list(unlike), (1,) * 50000), False)
        with self.assertRaises(TooLong):
            are_alike(list(unlike), (1,) * 50001)


class TestPrimesOfAll(unittest.TestCase):

    def check(self, books, most):
        found = primes_of_all(books)
        self.assertEqual(found.letters, books[0].size)
        words = found.words()
        self.assertEqual(words, sorted(words))
        self.assertIs(found.starts_apart(), True)
        self.assertEqual([row for row in words if len(row) <= most], plain_primes(books, most))
        for row in words:
            self.assertIs(are_alike(books, row), True)
            self.assertFalse(any(are_alike(books, row[:k]) for k in range(1, len(row))))
        return found

    def test_example(self):
        found = primes_of_all([G, H])
        self.assertTrue(same(found, Book(2, [(0, 1)])))
        self.assertTrue(same(primes_of_all(ALL_ALIKE), found))

    def test_one_book(self):
        for book in TWO_WORDS + [Book(60, [(k,) for k in range(60)]), Book(3, [(2,) * 5000]), Book(4, [])]:
            self.assertTrue(same(primes_of_all([book]), Book(book.size, [(k,) for k in range(book.size)])))

    def test_two_books(self):
        for pair in even_pairs()[::3]:
            found = self.check([pair.first, pair.second], 3)
            self.assertEqual(found.words(), primes(pair))

    def test_three_books_of_two_words(self):
        many = 0
        for books in list(product(TWO_WORDS, repeat=3))[::11]:
            many += self.check(list(books), 5).size > 0
        self.assertGreater(many, 20)

    def test_several_books(self):
        sizes = set()
        for count in (3, 4, 5):
            for books in some_lists(count, 80, count):
                sizes.add(self.check(books, 4).size)
        self.assertGreater(len(sizes), 3)

    def test_rows_made_of_several_elder_ones(self):
        # The first two books read (0, 1) and (2, 3) alike, the third one only both behind one another.
        first, second = beside([EXAMPLE, EXAMPLE]).first, beside([EXAMPLE, EXAMPLE]).second
        third = Book(4, [(0, 1), (1,), (2, 3), (3,)])
        self.assertEqual(self.check([first, second], 4).words(), [(0, 1), (2, 3)])
        self.assertEqual(self.check([first, second, third], 4).words(), [(0, 1), (2, 3)])
        third = Book(4, [(0, 1), (1, 2), (3,), (2, 3, 3)])
        self.assertEqual(self.check([first, second, third], 4).words(), [])
        third = Book(4, [(0, 1), (1, 2), (3, 3), (2,)])
        self.assertEqual(self.check([first, second, third], 4).words(), [])
        one, other = Book(2, [(0,), (1,)]), Book(2, [(0, 1), (1, 0)])
        self.assertEqual(self.check([one, one, one], 4).words(), [(0,), (1,)])
        self.assertEqual(self.check([one, one, other], 4).words(), [])
        # From the elder prime rows (0,), (1,) the further book makes one of both.
        one, other = Book(2, [(0, 1), (1,)]), Book(2, [(0,), (1, 1)])
        self.assertEqual(self.check([one, one, other], 4).words(), [(0, 1)])

    def test_orders_and_books_that_stand_twice(self):
        for books in list(some_lists(9, 25, 3)) + [[G, H, G], [G, G, H]]:
            found = primes_of_all(books)
            for chosen in permutations(books):
                self.assertTrue(same(primes_of_all(list(chosen)), found))
            self.assertTrue(same(primes_of_all(books + books[:1]), found))
            self.assertTrue(same(primes_of_all([books[0], books[0], books[1], books[1], books[2], books[0]]), found))
            self.assertLessEqual(found.size, primes_of_all(books[:2]).size)
            elder = primes_of_all(books[:2])
            self.assertTrue(all(elder.row_of(row) for row in found.words()))

    def test_nothing_is_left(self):
        for books in [Book(2, []), Book(2, [])], [Book(0, [])], [Book(0, [])] * 3, [Book(2, [(0,)]), Book(2, [(1,)])]:
            found = primes_of_all(books)
            self.assertEqual((found.letters, found.size), (books[0].size, 0))
        self.assertEqual(primes_of_all([Book(2, [(0,)]), Book(2, [(1,)]), Book(2, [(0,)])]).size, 0)

    def test_prime_rows_of_five_thousand_numbers(self):
        pair = hill([4998], [4998])
        self.assertEqual(primes_of_all([pair.first, pair.second]).words(), [hill_row([4998], [4998])])
        pair = hill([4999], [4999])
        self.assertEqual(len(hill_row([4999], [4999])), 5001)
        with self.assertRaises(TooLong):
            primes_of_all([pair.first, pair.second])
        pair = hill([60] * 10, [60] * 10)
        with self.assertRaises(TooLong):
            primes_of_all([pair.first, pair.second])

    def test_prime_rows_that_become_too_long_with_one_more_book(self):
        for ups, downs, length in ([2, 3], [3, 2], 24), ([2, 832], [2, 832], 5000), ([3, 416], [1, 1248], 5002):
            pair = hill(ups, downs)
            books = [cut(pair.first, 1), cut(pair.first, 2), cut(pair.second, 1)]
            elder = [(2 * k, 2 * k + 1) for k in range(pair.first.size)]
            self.assertEqual(primes_of_all(books[:2]).words(), elder)
            row = tuple(number for k in hill_row(ups, downs) for number in elder[k])
            self.assertEqual(len(row), length)
            for chosen in books, [books[1], books[0], books[1], books[0], books[2]]:
                if length > 5000:
                    with self.assertRaises(TooLong):
                        primes_of_all(chosen)
                else:
                    self.assertEqual(primes_of_all(chosen).words(), [row])


class TestTexts(unittest.TestCase):

    def test_texts_of_five_thousand_letters(self):
        books = grown(2500, 2499, 2499, 2500)
        self.assertEqual(len(books[0].read((0, 1))), 5000)
        self.assertEqual(primes_of_all(books).words(), [(0, 1)])
        for further in books:
            self.assertEqual(primes_of_all(books + [further]).words(), [(0, 1)])
        self.assertEqual(primes_of_all(books + [G]).words(), [])
        books = grown(2501, 2499, 2500, 2500)
        self.assertEqual(len(books[0].read((0, 1))), 5001)
        self.assertEqual(primes_of_all(books).words(), [(0, 1)])
        for further in books + [G, H]:
            with self.assertRaises(TooLong):
                primes_of_all(books + [further])

    def test_what_the_next_book_reads(self):
        for ones, twos in (2500, 2499), (1, 4998), (4998, 1), (4999, 1), (2500, 2500), (1, 5000), (4999, 5000):
            further = Book(2, [(0,) + (1,) * ones, (1,) * twos])
            for books in ([G, H, further], [H, G, further], [G, H, G, further]):
                if ones + twos < 5000:
                    self.assertEqual(primes_of_all(books).words(), [])
                else:
                    with self.assertRaises(TooLong):
                        primes_of_all(books)
        # Without the elder row (0, 1) the same book does no harm.
        self.assertEqual(primes_of_all([further, G]).words(), [])
        self.assertEqual(primes_of_all([further]).size, 2)


class TestErrors(unittest.TestCase):

    def test_unlike_books_come_first(self):
        odd = Book(2, [(0,), (0, 1)])
        for books in UNLIKE + [[odd, Book(2, [(0,)])], [odd, Book(3, [(0,), (1,)])], [G, H, odd, Book(0, [])]]:
            with self.assertRaises(BadBook):
                primes_of_all(books)

    def test_not_apart(self):
        odd = Book(2, [(0,), (0, 1)])
        for books in [odd], [odd, G], [G, odd], [G, H, odd], [odd, odd]:
            with self.assertRaises(NotApart):
                primes_of_all(books)
        for pair in EVEN_NOT_APART:
            with self.assertRaises(NotApart):
                primes_of_all([pair.first, pair.second])
        # Ahead of a chain or of a text that is too long.
        pair = ladder(4998, (5, 5))
        words = pair.first.words()
        words[5] = (0,)
        with self.assertRaises(NotApart):
            primes_of_all([pair.first, pair.second, Book(7, words)])
        with self.assertRaises(NotApart):
            primes_of_all(grown(2501, 2499, 2500, 2500) + [odd])

    def test_too_long_on_the_way(self):
        for pair in (ladder(4998, (5, 5)), ladder(4998, (5,)), beside([turning(7), turning(11), turning(13)])):
            for books in [pair.first, pair.second], [pair.second, pair.first], [pair.first, pair.first, pair.second]:
                with self.assertRaises(TooLong):
                    primes_of_all(books)
            self.assertEqual(primes_of_all([pair.first, pair.first]).size, pair.first.size)


class TestNew(unittest.TestCase):

    def test_lists_are_not_changed(self):
        books = [G, H, G]
        found = primes_of_all(books)
        are_alike(books, (0, 1))
        self.assertEqual(books, [G, H, G])
        found.words().clear()
        self.assertEqual(found.words(), [(0, 1)])
        books.clear()
        self.assertEqual(found.words(), [(0, 1)])
        self.assertEqual((G.words(), H.words()), ([(0, 1), (1,)], [(0,), (1, 1)]))


if __name__ == "__main__":
    unittest.main()
