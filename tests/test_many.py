"""[5.1] to [5.4], [5.11]: rows that several books read alike, and their prime rows."""

import unittest
from itertools import permutations, product

from samples import (
    EVEN_NOT_APART, EXAMPLE, FAR, NO_TUPLES, beside, books_apart, cut_books, even_pairs, hill, hill_row, ladder,
    some_lists, tuples_below, turning)

from alikeread.books import Book, Pair, same
from alikeread.errors import BadBook, BadRow, NotApart, TooLong
from alikeread.many import are_alike, primes_of_all
from alikeread.primes import primes

G, H = EXAMPLE.first, EXAMPLE.second
TWO_WORDS = [book for book in books_apart(2, 2) if book.size == 2]
# Each reads (0, 1, 1) from the row (0, 1).
ALL_ALIKE = [G, H, Book(2, [(0, 1), (1,)]), Book(2, [(0,), (1, 1)])]
UNLIKE = [
    [], [Book(2, [(0,)]), Book(2, [(0,), (1,)])], [Book(2, [(0,)]), Book(3, [(0,)])], [G, H, Book(3, [(0, 1), (1,)])],
    [Book(2, []), Book(3, [])], [G, H, G, Book(2, [(0,)])], [Book(0, []), Book(1, []), Book(0, [])],
]


def grown(ones, twos, threes, fours):
    """Return two books that read the row (0, 1) alike if the first two numbers add up to what the others do."""
    return [Book(2, [(0,) + (1,) * ones, (1,) * twos]), Book(2, [(0,) + (1,) * threes, (1,) * fours])]


def lists_of_two(pair):
    """Return lists in which the books of a pair stand, some of them several times."""
    first, second = pair.first, pair.second
    return [
        [first, second], [second, first], [first, first, second], [second, second, first], [first, second, second],
        [second, first, first]]


def lists_of_three(books):
    """Return lists in which two books stand, perhaps several times, ahead of a third one."""
    first, second, third = books
    return [[first, second, third], [second, first, third], [second, first, second, first, third]]


def plain_alike(books, most):
    """Return the rows with at most so many numbers that all books read alike."""
    rows = tuples_below(books[0].size, most, 1)
    return [row for row in rows if len({book.read(row) for book in books}) == 1]


def plain_primes(books, most):
    rows = set(plain_alike(books, most))
    return sorted(row for row in rows if not any(row[:k] in rows for k in range(1, len(row))))


class TestAreAlike(unittest.TestCase):

    def test_several_books(self):
        for books in list(some_lists(1, 60, 3)) + [ALL_ALIKE, [G, H], [G, G, H]]:
            for row in tuples_below(books[0].size, 4):
                plain = len(row) > 0 and all(book.read(row) == books[0].read(row) for book in books)
                self.assertIs(are_alike(books, row), plain)

    def test_one_book(self):
        for book in TWO_WORDS:
            self.assertIs(are_alike([book], ()), False)
            for row in tuples_below(2, 3, 1):
                self.assertIs(are_alike([book], row), True)

    def test_books_need_not_start_apart(self):
        one = Book(1, [(0,), (0, 0)])
        other = Book(1, [(0, 0), (0,)])
        self.assertIs(are_alike([one, other, one], (0, 1)), True)
        self.assertIs(are_alike([one, other, one], (0, 1, 1)), False)
        self.assertIs(are_alike([one, one, other], (1,)), False)

    def test_what_comes_first(self):
        for books in UNLIKE:
            for row in [(), (0,), (9,), None, (0,) * 100001]:
                with self.assertRaises(BadBook):
                    are_alike(books, row)
        for books in ([G], [G, H], [Book(1, [(0,) * 5000])] * 2):
            for value in NO_TUPLES + [(2,), (0, 2), (0, FAR), [0, 1], (0, True), (0,) * 100001 + (2,)]:
                with self.assertRaises(BadRow):
                    are_alike(books, value)

    def test_texts_that_are_too_long(self):
        short, long = Book(1, [(0,)]), Book(1, [(0,) * 5000])
        unlike = Book(2, [(0,), (1,)]), Book(2, [(1,), (0, 0)])
        self.assertIs(are_alike([long, long], (0,) * 20), True)
        self.assertIs(are_alike([short, long], (0,) * 20), False)
        self.assertIs(are_alike([short], (0,) * 100000), True)
        for books in [long], [short, long], [long, short], [short, short, long]:
            with self.assertRaises(TooLong):
                are_alike(books, (0,) * 21)
        with self.assertRaises(TooLong):
            are_alike([short], (0,) * 100001)
        self.assertIs(are_alike(list(unlike), (1,) * 50000), False)
        with self.assertRaises(TooLong):
            are_alike(list(unlike), (1,) * 50001)


class TestPrimesOfAll(unittest.TestCase):

    def check(self, books, most):
        found = primes_of_all(books)
        self.assertEqual(found.letters, books[0].size)
        words = found.words()
        self.assertEqual(words, sorted(words))
        self.assertIs(found.starts_apart(), True)
        self.assertEqual([row for row in words if len(row) <= most], plain_primes(books, most))
        for row in words:
            self.assertIs(are_alike(books, row), True)
            self.assertFalse(any(are_alike(books, row[:k]) for k in range(1, len(row))))
        return found

    def test_example(self):
        found = primes_of_all([G, H])
        self.assertTrue(same(found, Book(2, [(0, 1)])))
        self.assertTrue(same(primes_of_all(ALL_ALIKE), found))

    def test_one_book(self):
        for book in TWO_WORDS + [Book(60, [(k,) for k in range(60)]), Book(3, [(2,) * 5000]), Book(4, [])]:
            self.assertTrue(same(primes_of_all([book]), Book(book.size, [(k,) for k in range(book.size)])))

    def test_two_books(self):
        for pair in even_pairs()[::3]:
            found = self.check([pair.first, pair.second], 3)
            self.assertEqual(found.words(), primes(pair))

    def test_three_books_of_two_words(self):
        many = 0
        for books in list(product(TWO_WORDS, repeat=3))[::11]:
            many += self.check(list(books), 5).size > 0
        self.assertGreater(many, 20)

    def test_several_books(self):
        sizes = set()
        for count in (3, 4, 5):
            for books in some_lists(count, 80, count):
                sizes.add(self.check(books, 4).size)
        self.assertGreater(len(sizes), 3)

    def test_rows_made_of_several_elder_ones(self):
        # The first two books read (0, 1) and (2, 3) alike, the third one only both behind one another.
        first, second = beside([EXAMPLE, EXAMPLE]).first, beside([EXAMPLE, EXAMPLE]).second
        third = Book(4, [(0, 1), (1,), (2, 3), (3,)])
        self.assertEqual(self.check([first, second], 4).words(), [(0, 1), (2, 3)])
        self.assertEqual(self.check([first, second, third], 4).words(), [(0, 1), (2, 3)])
        third = Book(4, [(0, 1), (1, 2), (3,), (2, 3, 3)])
        self.assertEqual(self.check([first, second, third], 4).words(), [])
        third = Book(4, [(0, 1), (1, 2), (3, 3), (2,)])
        self.assertEqual(self.check([first, second, third], 4).words(), [])
        one, other = Book(2, [(0,), (1,)]), Book(2, [(0, 1), (1, 0)])
        self.assertEqual(self.check([one, one, one], 4).words(), [(0,), (1,)])
        self.assertEqual(self.check([one, one, other], 4).words(), [])
        # From the elder prime rows (0,), (1,) the further book makes one of both.
        one, other = Book(2, [(0, 1), (1,)]), Book(2, [(0,), (1, 1)])
        self.assertEqual(self.check([one, one, other], 4).words(), [(0, 1)])

    def test_orders_and_books_that_stand_twice(self):
        for books in list(some_lists(9, 25, 3)) + [[G, H, G], [G, G, H]]:
            found = primes_of_all(books)
            for chosen in permutations(books):
                self.assertTrue(same(primes_of_all(list(chosen)), found))
            self.assertTrue(same(primes_of_all(books + books[:1]), found))
            self.assertTrue(same(primes_of_all([books[0], books[0], books[1], books[1], books[2], books[0]]), found))
            self.assertLessEqual(found.size, primes_of_all(books[:2]).size)
            elder = primes_of_all(books[:2])
            self.assertTrue(all(elder.row_of(row) for row in found.words()))

    def test_nothing_is_left(self):
        for books in [Book(2, []), Book(2, [])], [Book(0, [])], [Book(0, [])] * 3, [Book(2, [(0,)]), Book(2, [(1,)])]:
            found = primes_of_all(books)
            self.assertEqual((found.letters, found.size), (books[0].size, 0))
        self.assertEqual(primes_of_all([Book(2, [(0,)]), Book(2, [(1,)]), Book(2, [(0,)])]).size, 0)

    def test_prime_rows_of_a_thousand_numbers(self):
        pair = hill([998], [998])
        row = hill_row([998], [998])
        self.assertEqual(len(row), 1000)
        for books in lists_of_two(pair):
            self.assertEqual(primes_of_all(books).words(), [row])

    def test_prime_rows_beyond_a_thousand_numbers(self):
        for ups, downs in ([999], [999]), ([1000], [1000]), ([4998], [4998]), ([4999], [4999]), ([60] * 10, [60] * 10):
            pair = hill(ups, downs)
            for books in lists_of_two(pair) + lists_of_two(beside([EXAMPLE, pair])):
                with self.assertRaises(TooLong):
                    primes_of_all(books)
            # One of the books alone, several times, has no such row.
            self.assertEqual(primes_of_all([pair.first] * 3).size, pair.first.size)

    def test_prime_rows_that_become_longer_with_one_more_book(self):
        for ups, downs, many in ([2, 3], [3, 2], 12), ([2, 332], [2, 332], 1000):
            for parts in [2] * 5, [5] * 5, [1, 2, 3, 2, 1], [1] * 5:
                self.check_cut(ups, downs, parts, many)

    def test_a_thousand_elder_prime_rows(self):
        # Over the words of the books such a row has more than a thousand numbers, and less than five thousand.
        self.check_cut([2, 332], [2, 332], [2] * 5, 1000)
        self.check_cut([2, 332], [2, 332], [4] * 5, 1000)
        self.check_cut([998], [998], [2] * 3, 1000)
        for parts in [2] * 3, [1, 2, 1], [2, 1, 2]:
            self.check_cut_too_long([999], [999], parts, 1001)
        for parts in [2] * 5, [4] * 5:
            self.check_cut_too_long([2, 333], [2, 333], parts, 1003)

    def test_five_thousand_numbers_of_words(self):
        # Here no row has more than a thousand elder prime rows.
        self.check_cut([2, 332], [2, 332], [5] * 5, 1000)
        self.check_cut([2, 275], [2, 275], [6] * 5, 829)
        for parts in [6, 5, 5, 5, 5], [5, 5, 5, 5, 6]:
            self.check_cut_too_long([2, 332], [2, 332], parts, 1000)
        self.check_cut_too_long([2, 277], [2, 277], [6] * 5, 835)

    def check_cut(self, ups, downs, parts, many):
        """See to it that three books have one prime row of so many elder ones."""
        books, row = self.cut_row(ups, downs, parts, many)
        self.assertLessEqual(len(row), 5000)
        for chosen in lists_of_three(books):
            self.assertEqual(primes_of_all(chosen).words(), [row])

    def check_cut_too_long(self, ups, downs, parts, many):
        """See to it that three books have a prime row of so many elder ones, and that this is too long."""
        books, row = self.cut_row(ups, downs, parts, many)
        self.assertTrue(many > 1000 or len(row) > 5000)
        for chosen in lists_of_three(books):
            with self.assertRaises(TooLong):
                primes_of_all(chosen)

    def cut_row(self, ups, downs, parts, many):
        """Return three books and their one prime row, which is made of so many elder ones with short texts."""
        books, elder = cut_books(hill(ups, downs), parts)
        self.assertEqual(primes_of_all(books[:2]).words(), elder)
        self.assertLessEqual(max(book.length(row) for book in books for row in elder), 5000)
        chosen = hill_row(ups, downs)
        self.assertEqual(len(chosen), many)
        row = sum([elder[k] for k in chosen], ())
        self.assertEqual(len({book.read(row) for book in books}), 1)
        return books, row

    def test_a_row_that_only_its_first_books_tell_as_too_long(self):
        # Part 3 is asked about the first two books, over whose words the row has two thousand numbers.
        books, _ = cut_books(hill([2, 332], [2, 332]), [2] * 5)
        self.assertEqual(len(primes_of_all(books).word(0)), 2000)
        for chosen in [books[0], books[2]], [books[0], books[2], books[1]], [books[2], books[0], books[1]]:
            with self.assertRaises(TooLong):
                primes_of_all(chosen)


class TestTexts(unittest.TestCase):

    def test_texts_of_five_thousand_letters(self):
        books = grown(2500, 2499, 2499, 2500)
        self.assertEqual(len(books[0].read((0, 1))), 5000)
        self.assertEqual(primes_of_all(books).words(), [(0, 1)])
        for further in books:
            self.assertEqual(primes_of_all(books + [further]).words(), [(0, 1)])
        self.assertEqual(primes_of_all(books + [G]).words(), [])
        books = grown(2501, 2499, 2500, 2500)
        self.assertEqual(len(books[0].read((0, 1))), 5001)
        self.assertEqual(primes_of_all(books).words(), [(0, 1)])
        for further in books + [G, H]:
            with self.assertRaises(TooLong):
                primes_of_all(books + [further])

    def test_what_the_next_book_reads(self):
        for ones, twos in (2500, 2499), (1, 4998), (4998, 1), (4999, 1), (2500, 2500), (1, 5000), (4999, 5000):
            further = Book(2, [(0,) + (1,) * ones, (1,) * twos])
            for books in ([G, H, further], [H, G, further], [G, H, G, further]):
                if ones + twos < 5000:
                    self.assertEqual(primes_of_all(books).words(), [])
                else:
                    with self.assertRaises(TooLong):
                        primes_of_all(books)
        # Without the elder row (0, 1) the same book does no harm.
        self.assertEqual(primes_of_all([further, G]).words(), [])
        self.assertEqual(primes_of_all([further]).size, 2)


class TestErrors(unittest.TestCase):

    def test_unlike_books_come_first(self):
        odd = Book(2, [(0,), (0, 1)])
        for books in UNLIKE + [[odd, Book(2, [(0,)])], [odd, Book(3, [(0,), (1,)])], [G, H, odd, Book(0, [])]]:
            with self.assertRaises(BadBook):
                primes_of_all(books)

    def test_not_apart(self):
        odd = Book(2, [(0,), (0, 1)])
        for books in [odd], [odd, G], [G, odd], [G, H, odd], [odd, odd]:
            with self.assertRaises(NotApart):
                primes_of_all(books)
        for pair in EVEN_NOT_APART:
            with self.assertRaises(NotApart):
                primes_of_all([pair.first, pair.second])
        # Ahead of a chain or of a text that is too long.
        pair = ladder(4998, (5, 5))
        words = pair.first.words()
        words[5] = (0,)
        with self.assertRaises(NotApart):
            primes_of_all([pair.first, pair.second, Book(7, words)])
        with self.assertRaises(NotApart):
            primes_of_all(grown(2501, 2499, 2500, 2500) + [odd])

    def test_too_long_on_the_way(self):
        for pair in (ladder(4998, (5, 5)), ladder(4998, (5,)), beside([turning(7), turning(11), turning(13)])):
            for books in [pair.first, pair.second], [pair.second, pair.first], [pair.first, pair.first, pair.second]:
                with self.assertRaises(TooLong):
                    primes_of_all(books)
            self.assertEqual(primes_of_all([pair.first, pair.first]).size, pair.first.size)


class TestNew(unittest.TestCase):

    def test_lists_are_not_changed(self):
        books = [G, H, G]
        found = primes_of_all(books)
        are_alike(books, (0, 1))
        self.assertEqual(books, [G, H, G])
        found.words().clear()
        self.assertEqual(found.words(), [(0, 1)])
        books.clear()
        self.assertEqual(found.words(), [(0, 1)])
        self.assertEqual((G.words(), H.words()), ([(0, 1), (1,)], [(0,), (1, 1)]))


if __name__ == "__main__":
    unittest.main()
