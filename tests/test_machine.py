"""[5.5] to [5.7], [5.11]: machines that read rows."""

import unittest
from itertools import combinations, product
from random import Random

from samples import FAR, NO_INTEGERS, NO_TUPLES, tuples_below

from alikeread.books import Book
from alikeread.errors import BadMachine, BadNumber, BadRow
from alikeread.machine import Machine, both, pulled

EVEN = Machine(2, 2, [1, 1, 0, 0], (0,))


def small_machines(states, letters):
    """Give all machines with so many states that read so many numbers."""
    takings = [taken for many in range(states + 1) for taken in combinations(range(states), many)]
    for table in product(range(states), repeat=states * letters):
        for takes in takings:
            yield Machine(states, letters, list(table), takes)


def some_machine(random, states, letters):
    table = [random.randrange(states) for _ in range(states * letters)]
    return Machine(states, letters, table, tuple(sorted(random.sample(range(states), random.randint(0, states)))))


def plain_after(machine, state, row):
    table = machine.table()
    for number in row:
        state = table[state * machine.letters + number]
    return state


class TestMachine(unittest.TestCase):

    def test_example(self):
        self.assertEqual((EVEN.states, EVEN.letters, EVEN.takes, EVEN.table()), (2, 2, (0,), [1, 1, 0, 0]))
        for row in tuples_below(2, 5):
            self.assertIs(EVEN.takes_row(row), len(row) % 2 == 0)

    def test_rows(self):
        for machine in list(small_machines(2, 2)) + [some_machine(Random(k), 5, 3) for k in range(20)]:
            for row in tuples_below(machine.letters, 3):
                for state in range(machine.states):
                    self.assertEqual(machine.after(state, row), plain_after(machine, state, row))
                self.assertIs(machine.takes_row(row), plain_after(machine, 0, row) in machine.takes)

    def test_one_by_one(self):
        machine = Machine(3, 2, [1, 2, 0, 1, 2, 0], (1, 2))
        self.assertEqual([machine.after(0, row) for row in [(), (0,), (1,), (0, 0), (0, 1), (1, 1)]], [0, 1, 2, 0, 1, 0])
        self.assertEqual([machine.takes_row(row) for row in [(), (0,), (1,), (1, 1)]], [False, True, True, False])

    def test_smallest_and_greatest(self):
        machine = Machine(1, 0, [], ())
        self.assertEqual((machine.table(), machine.after(0, ()), machine.takes_row(())), ([], 0, False))
        self.assertIs(Machine(1, 0, [], (0,)).takes_row(()), True)
        table = [(state + number) % 400 for state in range(400) for number in range(60)]
        machine = Machine(400, 60, table, tuple(range(400)))
        self.assertEqual((machine.table(), machine.takes), (table, tuple(range(400))))
        self.assertEqual(machine.after(399, (59,) * 1000), (399 + 59000) % 400)

    def test_lists_are_copied(self):
        table = [1, 1, 0, 0]
        machine = Machine(2, 2, table, (0,))
        table[0] = 0
        machine.table().clear()
        machine.table()[1] = 7
        self.assertEqual(machine.table(), [1, 1, 0, 0])
        self.assertEqual(machine.after(0, (0,)), 1)


class TestWrongMachines(unittest.TestCase):

    def check(self, states, letters, table, takes):
        with self.assertRaises(BadMachine):
            Machine(states, letters, table, takes)

    def test_states(self):
        for states in NO_INTEGERS + [0, -1, 401, FAR, -FAR]:
            for table in ([], [0, 0], [0] * 802):
                self.check(states, 2, table, ())
        self.check(401, 0, [], ())
        self.check(0, 0, [], ())

    def test_letters(self):
        for letters in NO_INTEGERS + [-1, 61, FAR, -FAR]:
            for table in ([], [0], [0] * 61):
                self.check(1, letters, table, ())
        self.assertEqual(Machine(1, 60, [0] * 60, ()).letters, 60)

    def test_tables(self):
        for value in NO_INTEGERS + [-1, 2, FAR, -FAR]:
            self.check(2, 2, [0, 0, 0, value], ())
            self.check(2, 2, [value, 0, 0, 0], ())
        for table in NO_TUPLES + [(0, 0, 0, 0), [0, 0, 0], [0] * 5, [[0, 0], [0, 0]], "0000", b"0000", None, 4]:
            if table not in ([0, 0], [0]):
                self.check(2, 2, table, ())
        self.check(1, 0, (), ())
        self.check(1, 0, None, ())

    def test_takes(self):
        for takes in NO_TUPLES + [(2,), (0, 2), (1, 0), (0, 0), (0, 1, 1), [0], {0: 0}, range(2), 0, "0", (FAR,)]:
            self.check(2, 1, [0, 0], takes)
        self.check(4, 0, [], (0, 2, 1, 3))
        self.check(4, 0, [], (0, 3, 3))
        self.assertEqual(Machine(4, 0, [], (0, 2, 3)).takes, (0, 2, 3))

    def test_values_of_after(self):
        for state in NO_INTEGERS + [-1, 2, FAR, -FAR]:
            for row in [(), (0,), None, (2,)]:
                with self.assertRaises(BadNumber):
                    EVEN.after(state, row)
        for row in NO_TUPLES + [(2,), (0, 2), (0, FAR), [0, 1], (0, True)]:
            with self.assertRaises(BadRow):
                EVEN.after(0, row)
            with self.assertRaises(BadRow):
                EVEN.takes_row(row)
        with self.assertRaises(BadRow):
            Machine(1, 0, [], ()).takes_row((0,))


class TestPulled(unittest.TestCase):

    def test_reads_as_the_texts_are_read(self):
        random = Random(3)
        books = [
            Book(2, [(0, 1), (1,)]), Book(2, []), Book(2, [(0,), (0,), (1, 1, 0)]), Book(3, [(2, 1), (0, 0, 2)]),
            Book(0, []), Book(1, [(0,) * 5000, (0,)])]
        for book in books:
            for states in (1, 2, 5):
                machine = some_machine(random, states, book.letters)
                found = pulled(machine, book)
                self.assertEqual((found.states, found.letters, found.takes), (states, book.size, machine.takes))
                for row in tuples_below(book.size, 3):
                    for state in range(states):
                        self.assertEqual(found.after(state, row), machine.after(state, book.read(row)))
                    self.assertIs(found.takes_row(row), machine.takes_row(book.read(row)))

    def test_all_small_machines(self):
        book = Book(2, [(0, 1), (1, 1, 0), (1,)])
        for machine in small_machines(2, 2):
            found = pulled(machine, book)
            for row in tuples_below(3, 2):
                self.assertIs(found.takes_row(row), machine.takes_row(book.read(row)))

    def test_example(self):
        found = pulled(EVEN, Book(2, [(0, 1)]))
        self.assertEqual((found.table(), found.letters, found.takes), ([0, 1], 1, (0,)))
        self.assertEqual(EVEN.table(), [1, 1, 0, 0])

    def test_greatest(self):
        table = [(state * 7 + number) % 400 for state in range(400) for number in range(60)]
        machine = Machine(400, 60, table, (1, 5))
        book = Book(60, [(k,) * 50 + (59 - k,) for k in range(60)])
        found = pulled(machine, book)
        self.assertEqual((found.states, found.letters), (400, 60))
        for state, number in (0, 0), (399, 59), (17, 31):
            self.assertEqual(found.table()[state * 60 + number], machine.after(state, book.word(number)))

    def test_wrong_books(self):
        for book in (Book(1, [(0,)]), Book(3, [(0,)]), Book(0, [])):
            with self.assertRaises(BadMachine):
                pulled(EVEN, book)


class TestBoth(unittest.TestCase):

    def test_takes_what_both_take(self):
        machines = list(small_machines(2, 1)) + list(small_machines(1, 1)) + list(small_machines(3, 1))[::7]
        for first, second in product(machines, repeat=2):
            found = both(first, second)
            self.assertEqual((found.states, found.letters), (first.states * second.states, 1))
            for row in tuples_below(1, 4):
                self.assertIs(found.takes_row(row), first.takes_row(row) and second.takes_row(row))

    def test_states(self):
        random = Random(4)
        for one, other, letters in (2, 3, 2), (3, 2, 2), (1, 4, 3), (4, 1, 0), (20, 20, 2), (400, 1, 1), (8, 50, 3):
            first, second = some_machine(random, one, letters), some_machine(random, other, letters)
            found = both(first, second)
            self.assertEqual(found.states, one * other)
            self.assertEqual(found.takes, tuple(p * other + q for p in first.takes for q in second.takes))
            for p, q in list(product(range(one), range(other)))[::1 + one * other // 30]:
                for row in tuples_below(letters, 2):
                    behind = first.after(p, row) * other + second.after(q, row)
                    self.assertEqual(found.after(p * other + q, row), behind)

    def test_wrong_machines(self):
        for letters in (0, 1, 3, 60):
            with self.assertRaises(BadMachine):
                both(EVEN, Machine(1, letters, [0] * letters, ()))
        for one, other in (401 // 2, 3), (21, 20), (400, 2), (2, 400), (400, 400):
            with self.assertRaises(BadMachine):
                both(Machine(one, 0, [], ()), Machine(other, 0, [], ()))
        self.assertEqual(both(Machine(20, 0, [], (19,)), Machine(20, 0, [], (19,))).takes, (399,))

    def test_nothing_is_changed(self):
        first, second = Machine(2, 1, [1, 0], (1,)), Machine(1, 1, [0], (0,))
        found = both(first, second)
        self.assertEqual((found.table(), found.takes), ([1, 0], (1,)))
        self.assertEqual((first.table(), second.table()), ([1, 0], [0]))


if __name__ == "__main__":
    unittest.main()
