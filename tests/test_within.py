"""[5.8] to [5.11]: rows that several books read alike and that a machine takes."""

import unittest
from random import Random

from samples import (
    EVEN_NOT_APART, EXAMPLE, FAR, NO_INTEGERS, NO_TUPLES, beside, cut_books, even_pairs, hill, hill_row, ladder,
    some_lists, tuples_below)

from alikeread.books import Book, Pair, same
from alikeread.counts import counts, number_of, row_at
from alikeread.errors import BadBook, BadMachine, BadNumber, BadRow, NotApart, TooLong
from alikeread.machine import Machine, pulled
from alikeread.many import primes_of_all
from alikeread.within import Within

G, H = EXAMPLE.first, EXAMPLE.second
EVEN_LENGTH = Machine(2, 2, [1, 1, 0, 0], (0,))
PLAIN = [Book(2, [(0,), (1,)])]


def some_machine(random, states, letters):
    table = [random.randrange(states) for _ in range(states * letters)]
    return Machine(states, letters, table, tuple(sorted(random.sample(range(states), random.randint(0, states)))))


def everything(letters):
    return Machine(1, letters, [0] * letters, (0,))


def others(machine):
    """Return the machine that takes just the rows that a machine does not take."""
    takes = tuple(state for state in range(machine.states) if state not in machine.takes)
    return Machine(machine.states, machine.letters, machine.table(), takes)


def circle(states, letters, takes=(0,)):
    """Return a machine that tells how many numbers were read, up to a multiple."""
    table = [(state + 1) % states for state in range(states) for _ in range(letters)]
    return Machine(states, letters, table, takes)


def plain_rows(books, machine, most):
    """Return such rows with at most so many numbers, one list for each length."""
    rows = [[] for _ in range(most + 1)]
    for row in tuples_below(books[0].size, most, 1):
        if len({book.read(row) for book in books}) == 1 and machine.takes_row(row):
            rows[len(row)].append(row)
    return rows


def counting(states, letters):
    """Return a machine that tells how many numbers 0 were read, up to a multiple."""
    table = []
    for state in range(states):
        table += [(state + 1) % states] + [state] * (letters - 1)
    return Machine(states, letters, table, (0,))


def books_with_zeros(many):
    """Return two books that read alike the rows of (1, 0, 0, ..) with so many numbers 0."""
    return [Book(3, [(0, 0, 0), (1,)]), Book(3, [(0, 0), (1,) + (0,) * many])]


class TestAgainstAllShortRows(unittest.TestCase):

    def check(self, books, machine, most):
        rows = plain_rows(books, machine, most)
        found = Within(books, machine)
        self.assertTrue(same(found.primes, primes_of_all(books)))
        drawn = pulled(machine, found.primes)
        self.assertEqual((found.machine.table(), found.machine.takes), (drawn.table(), drawn.takes))
        self.assertEqual((found.machine.states, found.machine.letters), (machine.states, found.primes.size))
        self.assertEqual(found.counts(most), [len(same_length) for same_length in rows])
        for length, same_length in enumerate(rows):
            for number, row in enumerate(same_length):
                self.assertEqual(found.row_at(length, number), row)
                self.assertEqual(found.number_of(row), number)
            for number in (len(same_length), len(same_length) + 1, FAR):
                self.assertIsNone(found.row_at(length, number))
        known = [row for same_length in rows for row in same_length]
        for row in tuples_below(books[0].size, most):
            if row not in known:
                with self.assertRaises(BadRow):
                    found.number_of(row)
        if known:
            self.assertIs(found.there_is(), True)
            self.assertEqual(found.least(), known[0])
        elif found.there_is():
            self.assertGreater(len(found.least()), most)
        else:
            self.assertIsNone(found.least())
        return len(known) > 0

    def test_some_books(self):
        random = Random(1)
        many = 0
        for count in (1, 2, 3):
            for books in some_lists(20 + count, 40, count):
                for states in (1, 2, 5):
                    machine = some_machine(random, states, books[0].size)
                    many += self.check(books, machine, 4)
        self.assertGreater(many, 50)

    def test_two_words(self):
        random = Random(2)
        for books in [G, H], PLAIN, [H, G, H], [Book(2, [(0,), (1, 1)]), Book(2, [(0,), (1, 1)])]:
            for states in (1, 2, 3, 4, 7):
                for _ in range(6):
                    self.check(books, some_machine(random, states, 2), 6)

    def test_long_rows_one_by_one(self):
        random = Random(3)
        pair = beside([EXAMPLE, hill([3], [3])])
        for states in (1, 3, 6):
            machine = some_machine(random, states, pair.first.size)
            found = Within([pair.first, pair.second], machine)
            rows = []
            number = 0
            while len(row_at(pair, number)) <= 16:
                rows.append(row_at(pair, number))
                number += 1
            for length in range(17):
                taken = [row for row in rows if len(row) == length and machine.takes_row(row)]
                self.assertEqual(found.counts(length)[-1], len(taken))
                self.assertEqual([found.row_at(length, k) for k in range(len(taken))], taken)
                self.assertEqual([found.number_of(row) for row in taken], list(range(len(taken))))

    def test_example(self):
        found = Within([G, H], EVEN_LENGTH)
        self.assertEqual((found.primes.letters, found.primes.words()), (2, [(0, 1)]))
        self.assertEqual((found.machine.table(), found.machine.takes), ([0, 1], (0,)))
        self.assertEqual((found.least(), found.counts(5)), ((0, 1), [0, 0, 1, 0, 1, 0]))

    def test_everything_passes(self):
        for pair in even_pairs()[::25] + [EXAMPLE]:
            found = Within([pair.first, pair.second], everything(pair.first.size))
            self.assertEqual(found.counts(50), counts(pair, 50))
            for number in range(10 if found.there_is() else 0):
                row = row_at(pair, number)
                ahead = sum(found.counts(len(row))[:-1])
                self.assertEqual(ahead + found.number_of(row), number_of(pair, row))

    def test_others_share(self):
        random = Random(4)
        for books in list(some_lists(30, 25, 3)) + [[G, H], PLAIN]:
            machine = some_machine(random, 4, books[0].size)
            whole = Within(books, everything(books[0].size)).counts(40)
            parts = Within(books, machine).counts(40), Within(books, others(machine)).counts(40)
            self.assertEqual([one + other for one, other in zip(parts[0], parts[1])], whole)


class TestLeast(unittest.TestCase):

    def test_the_empty_row_does_not_count(self):
        found = Within(PLAIN, circle(3, 2))
        self.assertIs(found.there_is(), True)
        self.assertEqual((found.least(), found.counts(6)), ((0, 0, 0), [0, 0, 0, 8, 0, 0, 64]))
        never = Machine(2, 2, [1, 1, 1, 1], (0,))
        found = Within(PLAIN, never)
        self.assertEqual((found.there_is(), found.least(), found.counts(3)), (False, None, [0, 0, 0, 0]))

    def test_first_of_equally_long_ones(self):
        # The state 3 is reached by (1, 0) and by (0, 1), and not by one number.
        found = Within(PLAIN, Machine(4, 2, [1, 2, 0, 3, 3, 0, 3, 3], (3,)))
        self.assertEqual(found.least(), (0, 1))
        found = Within(PLAIN, Machine(4, 2, [1, 2, 0, 0, 3, 0, 3, 3], (3,)))
        self.assertEqual(found.least(), (1, 0))

    def test_fewest_numbers_and_not_fewest_prime_rows(self):
        pair = beside([hill([3], [3]), EXAMPLE])
        # One prime row of 5 numbers leads to a state that takes, and so do two of 2 numbers.
        self.assertEqual(primes_of_all([pair.first, pair.second]).words(), [(0, 1, 1, 1, 2), (3, 4)])
        table = [0] * 25
        for state, number, target in (0, 0, 4), (0, 3, 1), (1, 4, 2), (2, 3, 3), (3, 4, 4):
            table[state * 5 + number] = target
        for state, number in (4, 1), (4, 2), (4, 4):
            table[state * 5 + number] = 4
        found = Within([pair.first, pair.second], Machine(5, 5, table, (4,)))
        self.assertEqual(found.least(), (3, 4, 3, 4))

    def test_hundred_thousand_numbers(self):
        # Two books with a prime row of 1000 numbers, and three ones with a prime row of 5000; both have one number 0.
        pair = hill([998], [998])
        three, elder = cut_books(hill([2, 332], [2, 332]), [5] * 5)
        longest = sum([elder[k] for k in hill_row([2, 332], [2, 332])], ())
        for books, row in ([pair.first, pair.second], hill_row([998], [998])), (three, longest):
            times = 100000 // len(row)
            found = Within(books, counting(times, books[0].size))
            self.assertIs(found.there_is(), True)
            self.assertEqual(found.primes.words(), [row])
            self.assertEqual(found.least(), row * times)
            self.assertEqual(len(found.least()), 100000)
            found = Within(books, counting(times + 1, books[0].size))
            self.assertIs(found.there_is(), True)
            with self.assertRaises(TooLong):
                found.least()

    def test_just_beyond_a_hundred_thousand_numbers(self):
        # Rows of 399 times 250 and once 251 numbers, or once 250 or 252.
        for last, error in (250, False), (251, True):
            pair = beside([hill([248], [248]), hill([last - 2], [last - 2])])
            table = []
            for state in range(400):
                step = min(state + 1, 399)
                table += [step if state < 398 else state, state, state, step if state == 398 else state, state, state]
            table[399 * 6:] = [399] * 6
            table[0:6] = [1, 0, 0, 0, 0, 0]
            found = Within([pair.first, pair.second], Machine(400, 6, table, (399,)))
            length = 398 * 250 + last
            self.assertLess(length, 100000)
            self.assertEqual(len(found.least()), length)
            rest = 100000 - length + (1 if error else 0)
            pair = beside([hill([248], [248]), hill([last + rest - 2], [last + rest - 2])])
            found = Within([pair.first, pair.second], Machine(400, 6, table, (399,)))
            if error:
                with self.assertRaises(TooLong):
                    found.least()
            else:
                self.assertEqual(len(found.least()), 100000)

    def test_far_too_long(self):
        books, _ = cut_books(hill([2, 332], [2, 332]), [5] * 5)
        found = Within(books, Machine(400, 25, [
            min(state + (number == 0), 399) for state in range(400) for number in range(25)], (399,)))
        self.assertEqual(len(found.primes.word(0)), 5000)
        self.assertIs(found.there_is(), True)
        with self.assertRaises(TooLong):
            found.least()
        self.assertEqual(found.counts(1000), [0] * 1001)

    def test_four_hundred_states(self):
        book = Book(60, [(k,) for k in range(60)])
        table = [(state * 7 + number) % 400 for state in range(400) for number in range(60)]
        found = Within([book, book], Machine(400, 60, table, (399,)))
        rows = plain_rows([book], Machine(400, 60, table, (399,)), 3)
        self.assertEqual(found.counts(3), [len(same_length) for same_length in rows])
        self.assertEqual(found.least(), found.row_at(len(found.least()), 0))
        self.assertEqual(found.number_of(found.row_at(20, 10 ** 30)), 10 ** 30)


class TestNumbers(unittest.TestCase):

    def test_up_to_a_thousand(self):
        found = Within(PLAIN, circle(5, 2))
        told = found.counts(1000)
        self.assertEqual(told, [2 ** k if k % 5 == 0 and k > 0 else 0 for k in range(1001)])
        self.assertEqual(found.counts(0), [0])
        self.assertIsNone(found.row_at(0, 0))
        self.assertIsNone(found.row_at(999, 0))
        self.assertEqual(found.row_at(1000, 0), (0,) * 1000)
        self.assertEqual(found.row_at(1000, 2 ** 1000 - 1), (1,) * 1000)
        self.assertIsNone(found.row_at(1000, 2 ** 1000))
        self.assertIsNone(found.row_at(1000, FAR))
        self.assertEqual(found.number_of((1,) * 1000), 2 ** 1000 - 1)
        random = Random(6)
        for _ in range(20):
            number = random.randrange(2 ** 1000)
            self.assertEqual(found.number_of(found.row_at(1000, number)), number)

    def test_any_order_of_lengths(self):
        found = Within([G, H], everything(2))
        self.assertEqual(found.row_at(10, 0), (0, 1) * 5)
        self.assertEqual(found.counts(3), [0, 0, 1, 0])
        self.assertEqual(found.number_of((0, 1)), 0)
        self.assertEqual(found.counts(12), [0, 0, 1, 0, 1, 0, 1, 0, 1, 0, 1, 0, 1])

    def test_prime_rows_that_are_longer_than_the_row(self):
        one = Book(1, [(0,)])
        pair = beside([hill([3], [3]), Pair(one, one), EXAMPLE])
        found = Within([pair.first, pair.second], everything(6))
        self.assertEqual(found.primes.words(), [(0, 1, 1, 1, 2), (3,), (4, 5)])
        for length in (1, 2, 3, 4):
            self.assertEqual(found.row_at(length, 0), (3,) * length)
            self.assertEqual(found.number_of((3,) * length), 0)
        self.assertEqual([found.row_at(3, k) for k in range(4)], [(3, 3, 3), (3, 4, 5), (4, 5, 3), None])
        self.assertEqual([found.number_of(row) for row in [(3, 3, 3), (3, 4, 5), (4, 5, 3)]], [0, 1, 2])
        self.assertEqual((found.counts(6)[-1], found.row_at(6, 0)), (15, (0, 1, 1, 1, 2, 3)))
        self.assertEqual(found.number_of((3, 0, 1, 1, 1, 2)), 1)

    def test_values_that_are_no_lengths_or_numbers(self):
        for found in (Within([G, H], EVEN_LENGTH), Within([Book(0, [])], everything(0))):
            for value in NO_INTEGERS + [-1, -FAR, 1001, 1002, FAR]:
                with self.assertRaises(BadNumber):
                    found.counts(value)
                for number in (0, 1, FAR, None):
                    with self.assertRaises(BadNumber):
                        found.row_at(value, number)
            for value in NO_INTEGERS + [-1, -FAR]:
                for length in (0, 2, 1000):
                    with self.assertRaises(BadNumber):
                        found.row_at(length, value)

    def test_values_that_are_no_rows(self):
        for found in (Within([G, H], EVEN_LENGTH), Within(PLAIN, everything(2))):
            for value in NO_TUPLES + [(2,), (0, 2), (0, FAR), [0, 1], (0, True), (0,) * 1001 + (2,), ()]:
                with self.assertRaises(BadRow):
                    found.number_of(value)
        found = Within([G, H], EVEN_LENGTH)
        for row in [(0,), (1,), (1, 0), (0, 1, 0), (0, 1, 1), (0, 1) * 499 + (0, 0)]:
            with self.assertRaises(BadRow):
                found.number_of(row)
        self.assertEqual(found.number_of((0, 1) * 500), 0)
        # Too long ahead of not alike, or not taken.
        for row in [(0, 1) * 501, (0,) * 1001, (1,) * 1001, (0, 1) * 500 + (0,)]:
            with self.assertRaises(TooLong):
                found.number_of(row)
        with self.assertRaises(TooLong):
            Within([G], Machine(1, 2, [0, 0], ())).number_of((0,) * 1001)

    def test_rows_that_the_machine_does_not_take(self):
        found = Within(PLAIN, circle(2, 2, (1,)))
        self.assertEqual(found.number_of((1, 0, 1)), 5)
        for row in [(), (1, 0), (0, 0, 0, 0)]:
            with self.assertRaises(BadRow):
                found.number_of(row)


class TestErrors(unittest.TestCase):

    def test_what_comes_first(self):
        odd = Book(2, [(0,), (0, 1)])
        wrong = Machine(1, 7, [0] * 7, ())
        far = ladder(4998, (5, 5))
        for machine in (EVEN_LENGTH, wrong):
            for books in [], [G, Book(2, [(0,)])], [odd, Book(3, [(0,), (1,)])]:
                with self.assertRaises(BadBook):
                    Within(books, machine)
            for books in [odd], [G, odd], [EVEN_NOT_APART[0].first, EVEN_NOT_APART[0].second]:
                with self.assertRaises(NotApart):
                    Within(books, machine)
            with self.assertRaises(TooLong):
                Within([far.first, far.second], machine)

    def test_prime_rows_beyond_a_thousand_numbers(self):
        wrong = Machine(1, 7, [0] * 7, ())
        row = (1,) + (0,) * 999
        first, third = books_with_zeros(999)
        for books in [first, third], [third, first], [first, first, third], [third, first, first]:
            found = Within(books, everything(2))
            self.assertEqual((found.primes.words(), found.least()), ([row], row))
            self.assertEqual(found.counts(1000), [0] * 1000 + [1])
            with self.assertRaises(BadMachine):
                Within(books, wrong)
        for many in (1000, 1001, 4998):
            first, third = books_with_zeros(many)
            for books in [first, third], [third, first], [first, first, third], [third, first, first]:
                for machine in (everything(2), counting(3, 2), Machine(1, 2, [0, 0], ()), wrong):
                    with self.assertRaises(TooLong):
                        Within(books, machine)

    def test_rows_of_too_many_elder_prime_rows(self):
        books, _ = cut_books(hill([999], [999]), [2] * 3)
        for machine in (everything(6), everything(7)):
            with self.assertRaises(TooLong):
                Within(books, machine)
        books, elder = cut_books(hill([998], [998]), [2] * 3)
        row = sum([elder[k] for k in hill_row([998], [998])], ())
        self.assertEqual((Within(books, everything(6)).least(), len(row)), (row, 2000))
        with self.assertRaises(BadMachine):
            Within(books, everything(7))

    def test_machines_that_do_not_fit(self):
        for letters in (0, 1, 3, 60):
            for books in ([G, H], PLAIN, [Book(3, [(0,), (1,)])]):
                with self.assertRaises(BadMachine):
                    Within(books, Machine(1, letters, [0] * letters, ()))
        # The machine has as many letters as there are prime rows, but not as there are words.
        with self.assertRaises(BadMachine):
            Within([G, H], everything(1))


class TestNew(unittest.TestCase):

    def test_lists_may_be_changed(self):
        books = [G, H]
        table = [1, 1, 0, 0]
        found = Within(books, Machine(2, 2, table, (0,)))
        books.clear()
        table[:] = [0, 0, 0, 0]
        found.counts(5).clear()
        found.counts(5)[2] = 7
        found.primes.words().clear()
        found.machine.table()[0] = 1
        self.assertEqual(found.counts(5), [0, 0, 1, 0, 1, 0])
        self.assertEqual((found.least(), found.row_at(4, 0)), ((0, 1), (0, 1, 0, 1)))

    def test_two_by_turns(self):
        one, other = Within([G, H], EVEN_LENGTH), Within(PLAIN, circle(3, 2))
        alone = [one.counts(20), other.counts(20)]
        again = [Within([G, H], EVEN_LENGTH), Within(PLAIN, circle(3, 2))]
        for length in range(21):
            for found, told in zip(again, alone):
                self.assertEqual(found.counts(length), told[:length + 1])
                if told[length] > 0:
                    self.assertEqual(found.number_of(found.row_at(length, told[length] - 1)), told[length] - 1)


if __name__ == "__main__":
    unittest.main()
