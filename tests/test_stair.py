"""[7.4] to [7.11]: the stair from tape machines to pairs of books."""

import unittest
from random import Random

from samples import FAR, NO_INTEGERS, NO_TUPLES, ONES, plain_run, some_tape

from alikeread.books import Book
from alikeread.errors import BadBook, BadNumber, BadRow, TooLong
from alikeread.search import fault_of, rest_of, search
from alikeread.stair import Stair
from alikeread.tape import Tape

ROW = (0, 3, 7, 4, 3, 2, 6, 3, 2, 2, 10, 3, 2, 12, 4, 3, 12, 4, 13)
# To the right for ever; to and fro for ever over two places.
AWAY = Tape(2, 1, [(0, 1, 0), (1, 1, 0)])
TO_AND_FRO = Tape(2, 2, [(0, 1, 1), (1, 1, 1), (0, -1, 0), (1, -1, 0)])
# To the right over marks 1; at a mark 2 it halts, or it goes back by one place first.
UP_TO_TWO = Tape(3, 1, [(0, 1, 1), (1, 1, 0), (2, 1, 1)])
BACK_FROM_TWO = Tape(3, 2, [(0, 1, 2), (1, 1, 0), (2, -1, 1), (0, 1, 2), (1, 1, 2), (2, 1, 2)])


def plain_rules(machine, word):
    """Return the rules as the document tells them, with the kind of each."""
    many = machine.marks
    halted, sweeper, west, east, opening, closing = range(many + machine.states, many + machine.states + 6)
    marks = range(many)
    rules = [(1, [opening], [opening, west, many, *word, east])]
    rules += [(2, [a], [a]) for a in marks] + [(2, [west], [west]), (2, [east], [east])]
    for state in range(machine.states):
        for a in marks:
            c, move, target = machine.table()[state * many + a]
            q, p = many + state, many + target
            if move == 1:
                rules.append((3, [q, a], [c, p]))
                if a == 0:
                    rules.append((3, [q, east], [c, p, east]))
            else:
                rules.append((3, [west, q, a], [west, p, c]))
                rules += [(3, [b, q, a], [p, b, c]) for b in marks]
                if a == 0:
                    rules.append((3, [west, q, east], [west, p, c, east]))
                    rules += [(3, [b, q, east], [p, b, c, east]) for b in marks]
    rules += [(4, [halted, a], [halted]) for a in marks] + [(4, [halted, east], [sweeper, east])]
    rules += [(5, [a, sweeper], [sweeper]) for a in marks]
    return rules + [(6, [west, sweeper, east, closing], [closing])]


def plain_words(machine, word):
    """Return the words of both books."""
    star = machine.marks + machine.states + 6
    firsts, seconds = [], []
    for kind, read, write in plain_rules(machine, word):
        firsts.append(tuple(sign for letter in read for sign in (star, letter)))
        told = tuple(sign for letter in write for sign in (letter, star))
        seconds.append((star,) + told if kind == 1 else told[:-1] if kind == 6 else told)
    return firsts, seconds


def plain_row(pair):
    """Return the row that begins with the opening and goes on with what must come, until both texts are the same."""
    row = (0,)
    ahead = pair.second.word(0)[len(pair.first.word(0)):]
    while ahead:
        fitting = []
        for number, word in enumerate(pair.first.words()):
            told = ahead + pair.second.word(number)
            if number > 0 and told[:len(word)] == word and len(word) <= len(ahead) + (word[-1] == told[-1]):
                fitting.append(number)
        # Letters that are copied also fit where a longer rule does, which alone goes on to its end.
        number = max(fitting, key=lambda k: len(pair.first.word(k)))
        row += (number,)
        ahead = (ahead + pair.second.word(number))[len(pair.first.word(number)):]
    return row


def halting(seed, many):
    """Give some machines and words with their runs, which halt."""
    random = Random(seed)
    while many > 0:
        machine = some_tape(random, random.choice([2, 2, 3]), random.randint(1, 4))
        word = tuple(random.randrange(machine.marks) for _ in range(random.randint(0, 4)))
        run = plain_run(machine, word, 12)
        # Most machines that halt do so at once.
        short = len(run) < 5 and random.random() < 0.7
        if run[-1][0] == machine.states and len(plain_rules(machine, word)) <= 60 and not short:
            many -= 1
            yield machine, word, run


class TestBooks(unittest.TestCase):

    def check(self, machine, word):
        pair = Stair(machine, word).pair
        firsts, seconds = plain_words(machine, word)
        self.assertEqual(pair.first.words(), firsts)
        self.assertEqual(pair.second.words(), seconds)
        self.assertEqual(pair.letters, machine.marks + machine.states + 7)
        self.assertIs(pair.is_even(), True)

    def test_rules(self):
        random = Random(1)
        for _ in range(300):
            machine = some_tape(random, random.randint(2, 3), random.randint(1, 3))
            word = tuple(random.randrange(machine.marks) for _ in range(random.randint(0, 5)))
            if len(plain_rules(machine, word)) <= 60:
                self.check(machine, word)

    def test_example(self):
        stair = Stair(ONES, (1,))
        self.check(ONES, (1,))
        self.assertEqual((stair.pair.first.size, stair.pair.letters), (14, 10))
        self.assertEqual(stair.pair.first.word(0), (9, 7))
        self.assertEqual(stair.pair.second.word(0), (9, 7, 9, 5, 9, 2, 9, 1, 9, 6, 9))
        self.assertEqual(stair.pair.first.word(13), (9, 5, 9, 4, 9, 6, 9, 8))
        self.assertEqual(stair.pair.second.word(13), (8,))
        self.assertEqual((stair.pair.first.word(6), stair.pair.second.word(6)), ((9, 2, 9, 6), (1, 9, 3, 9, 6, 9)))

    def test_blanks_of_the_word_are_told(self):
        self.check(ONES, (1, 0, 0))
        self.assertEqual(len(Stair(ONES, (0, 0, 0)).pair.second.word(0)), 15)
        self.check(ONES, (0,) * 200)
        self.check(ONES, ())

    def test_most_marks_and_states(self):
        self.check(Tape(8, 1, [(k, 1, 1) for k in range(8)]), (7,) * 200)
        rows = [(0, 1, 16), (1, 1, 16)] * 15 + [(0, 1, 3), (0, 1, 3)]
        machine = Tape(2, 16, rows)
        self.check(machine, (1, 0))

    def test_sixty_words(self):
        # Each state has 3 rules, and 2 more where it goes to the left at the mark 1.
        right, left = [(0, 1, 0), (1, 1, 0)], [(0, 1, 0), (1, -1, 0)]
        machine = Tape(2, 15, right * 13 + left * 2)
        self.assertEqual(len(plain_rules(machine, ())), 60)
        self.check(machine, (1, 1))
        for rows in right * 15 + left, right * 14 + left * 2, right * 20, [(0, -1, 0)] * 20:
            machine = Tape(2, len(rows) // 2, rows)
            self.assertGreater(len(plain_rules(machine, ())), 60)
            for word in (), (1,), (1,) * 200:
                with self.assertRaises(BadBook):
                    Stair(machine, word)
        self.assertEqual(len(plain_rules(Tape(2, 16, right * 15 + left), ())), 61)

    def test_words_that_are_none(self):
        for machine in (ONES, Tape(2, 20, [(0, -1, 0)] * 40)):
            for value in NO_TUPLES + [(2,), (0, 2), (0, FAR), [0], (0, True), (0,) * 201]:
                with self.assertRaises(BadRow):
                    Stair(machine, value)


class TestRows(unittest.TestCase):

    def test_runs_that_halt(self):
        lengths = set()
        for machine, word, run in halting(2, 150):
            stair = Stair(machine, word)
            steps = len(run) - 1
            row = stair.row_of(steps)
            self.assertEqual(row, plain_row(stair.pair))
            for most in (steps + 1, 10000):
                self.assertEqual(stair.row_of(most), row)
            for most in (0, steps - 1):
                self.assertIsNone(stair.row_of(most))
            self.assertEqual(stair.pair.first.read(row), stair.pair.second.read(row))
            self.assertEqual(rest_of(stair.pair, row), ("even", ()))
            for k in range(1, len(row)):
                self.assertEqual(rest_of(stair.pair, row[:k])[0], "second")
            self.assertEqual(stair.steps_of(row), steps)
            kinds = [kind for kind, _, _ in plain_rules(machine, word)]
            self.assertEqual([kinds[number] for number in row].count(3), steps)
            for times in (1, 2, 3):
                self.assertEqual(stair.run_of(row * times), (run, times))
                self.assertEqual(stair.steps_of(row * times), steps * times)
            self.assertEqual(machine.run(word, steps), stair.run_of(row)[0])
            lengths.add(steps)
        self.assertGreater(len(lengths), 6)

    def test_example(self):
        stair = Stair(ONES, (1,))
        self.assertEqual(stair.row_of(2), ROW)
        self.assertIsNone(stair.row_of(1))
        self.assertEqual(stair.run_of(ROW), ([(0, (1,), 0), (0, (1,), 1), (1, (1, 1), 2)], 1))
        self.assertEqual(stair.steps_of(ROW), 2)

    def test_rows_that_are_nearly_the_row(self):
        for machine, word, run in list(halting(3, 12)) + [(ONES, (1,), plain_run(ONES, (1,), 5))]:
            stair = Stair(machine, word)
            row = stair.row_of(20)
            wrong = [row[1:], row[:-1], row + row[:1], row[1:] + row[:1], row[::-1], row + row[:-1], (0,), (0, 0)]
            for k in range(len(row)):
                wrong += [row[:k] + row[k + 1:], row[:k + 1] + row[k:], row[:k] + row[k + 1:k + 2] + row[k:k + 1]]
                wrong += [row[:k] + (number,) + row[k + 1:] for number in range(0, stair.pair.first.size, 5)]
            for value in wrong:
                if value != row:
                    with self.assertRaises(BadRow):
                        stair.run_of(value)
                    with self.assertRaises(BadRow):
                        stair.run_of(row + value)

    def test_machines_that_do_not_halt(self):
        for machine in (AWAY, TO_AND_FRO):
            stair = Stair(machine, (1, 0, 1))
            for most in (0, 1, 100, 10000):
                self.assertIsNone(stair.row_of(most))
        self.assertIsNone(Stair(Tape(2, 1, [(1, 1, 0), (1, 1, 0)]), ()).row_of(3000))

    def test_twenty_thousand_numbers(self):
        word = (1,) * 76 + (2,) + (1,) * 57
        stair = Stair(BACK_FROM_TWO, word)
        row = stair.row_of(10000)
        self.assertEqual(len(row), 20000)
        self.assertEqual(stair.row_of(78), row)
        self.assertIsNone(stair.row_of(77))
        self.assertEqual(stair.run_of(row), (plain_run(BACK_FROM_TWO, word, 100), 1))
        self.assertEqual(stair.run_of(row * 3)[1], 3)
        self.assertEqual(stair.steps_of(row * 3), 234)
        word = (1,) * 97 + (2,) + (1,) * 24
        self.assertEqual(len(plain_row(Stair(UP_TO_TWO, word).pair)), 20001)
        for word, steps in (word, 98), ((1,) * 199 + (2,), 200), ((1,) * 200, 201):
            stair = Stair(UP_TO_TWO, word)
            for most in (steps, 10000):
                with self.assertRaises(TooLong):
                    stair.row_of(most)
            self.assertIsNone(stair.row_of(steps - 1))

    def test_ten_thousand_steps(self):
        # It goes to and fro between the marks at both ends, and takes a one away at each turn.
        rows = [
            (0, 1, 3), (1, 1, 0), (2, 1, 0), (0, -1, 1), (1, -1, 1), (2, 1, 0),
            (0, 1, 3), (1, 1, 3), (2, 1, 3)]
        machine = Tape(3, 3, rows)
        run = plain_run(machine, (2, 1, 1), 50)
        self.assertEqual(run[-1][0], 3)
        stair = Stair(machine, (2, 1, 1))
        self.assertEqual(stair.run_of(stair.row_of(10000))[0], run)

    def test_longer_rows_are_read_whole(self):
        # The texts of these rows have more than 100000 letters.
        stair = Stair(UP_TO_TWO, (1,) * 60 + (2,) + (1,) * 60)
        row = stair.row_of(100)
        run = stair.run_of(row)[0]
        self.assertGreater(stair.pair.first.length(row * 9), 100000)
        self.assertEqual(stair.run_of(row * 9), (run, 9))
        with self.assertRaises(BadRow):
            stair.run_of(row * 9 + (0,))


class TestErrors(unittest.TestCase):

    def test_steps(self):
        for stair in (Stair(ONES, (1,)), Stair(AWAY, ()), Stair(UP_TO_TWO, (1,) * 200)):
            for value in NO_INTEGERS + [-1, 10001, FAR, -FAR]:
                with self.assertRaises(BadNumber):
                    stair.row_of(value)
        self.assertIsNone(Stair(ONES, (1,)).row_of(0))
        self.assertEqual(Stair(ONES, (1,)).row_of(10000), ROW)

    def test_values_that_are_no_rows(self):
        stair = Stair(ONES, (1,))
        for value in NO_TUPLES + [(14,), (0, 14), (0, FAR), list(ROW), (0, True), ROW + (14,), ROW + (None,)]:
            with self.assertRaises(BadRow):
                stair.run_of(value)
            with self.assertRaises(BadRow):
                stair.steps_of(value)
        with self.assertRaises(BadRow):
            stair.run_of(())
        self.assertEqual(stair.steps_of(()), 0)
        self.assertEqual([stair.steps_of((number,)) for number in range(14)], [0] * 5 + [1] * 3 + [0] * 6)
        self.assertEqual(stair.steps_of((7, 7, 5, 0, 6)), 4)


class TestSearch(unittest.TestCase):

    def test_the_search_finds_the_row(self):
        many = 0
        for machine, word, _ in halting(4, 40):
            stair = Stair(machine, word)
            end, found = search(stair.pair, 300)
            if end == "row":
                self.assertEqual(found, stair.row_of(20))
                many += 1
            else:
                self.assertEqual(end, "open")
        self.assertGreater(many, 30)
        self.assertEqual(search(Stair(ONES, (1,)).pair, 5000), ("row", ROW))

    def test_machines_that_do_not_halt(self):
        for word in (), (1,), (0, 1):
            pair = Stair(TO_AND_FRO, word).pair
            end, rests = search(pair, 5000)
            self.assertEqual(end, "none")
            self.assertIsNone(fault_of(pair, rests))
            for most in (1, 50, 400):
                self.assertEqual(search(Stair(AWAY, word).pair, most), ("open", most))

    def test_no_halting_run_no_row(self):
        random = Random(5)
        ends = set()
        for _ in range(60):
            machine = some_tape(random, 2, 1)
            word = tuple(random.randrange(2) for _ in range(2))
            stair = Stair(machine, word)
            row = stair.row_of(100)
            end, found = search(stair.pair, 200)
            ends.add(end)
            if row is None:
                self.assertIn(end, ("none", "open"))
            elif end == "row":
                self.assertEqual(found, row)
        self.assertEqual(ends, {"row", "none", "open"})


class TestNew(unittest.TestCase):

    def test_lists_may_be_changed(self):
        rows = [(1, 1, 1), (1, 1, 0)]
        machine = Tape(2, 1, rows)
        stair = Stair(machine, (1,))
        rows[0] = (0, 1, 0)
        machine.table().clear()
        stair.pair.first.words().clear()
        stair.run_of(ROW)[0].clear()
        self.assertEqual((stair.row_of(5), stair.run_of(ROW)[1], len(stair.run_of(ROW)[0])), (ROW, 1, 3))
        self.assertIsInstance(stair.pair.first, Book)

    def test_two_by_turns(self):
        one, other = Stair(ONES, (1,)), Stair(ONES, (1, 1))
        rows = [one.row_of(9), other.row_of(9)]
        for _ in range(3):
            for stair, row, word in zip((one, other), rows, ((1,), (1, 1))):
                self.assertEqual(stair.row_of(9), row)
                self.assertEqual(stair.run_of(row * 2), (plain_run(ONES, word, 9), 2))
        with self.assertRaises(BadRow):
            one.run_of(rows[1])


if __name__ == "__main__":
    unittest.main()
