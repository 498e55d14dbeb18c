"""[7.1] to [7.3], [7.11]: tape machines and their runs."""

import unittest
from random import Random

from samples import FAR, NO_INTEGERS, NO_TUPLES, ONES, plain_run, some_tape, tuples_below

from alikeread.errors import BadMachine, BadNumber, BadRow
from alikeread.tape import Tape

# To the right for ever, leaving the marks as they are, or with blanks, or with ones.
RIGHT = Tape(2, 1, [(0, 1, 0), (1, 1, 0)])
BLANKS = Tape(2, 1, [(0, 1, 0), (0, 1, 0)])
TELLS = Tape(2, 1, [(1, 1, 0), (1, 1, 0)])
LEFT = Tape(3, 2, [(2, -1, 1), (2, -1, 1), (1, -1, 0), (2, -1, 0), (2, -1, 0), (1, -1, 2)])


class TestRuns(unittest.TestCase):

    def test_against_a_dict(self):
        random = Random(1)
        lengths = set()
        for _ in range(400):
            machine = some_tape(random, random.randint(2, 4), random.randint(1, 4))
            for many in (0, 1, 3, 7):
                word = tuple(random.randrange(machine.marks) for _ in range(many))
                found = machine.run(word, 40)
                self.assertEqual(found, plain_run(machine, word, 40))
                lengths.add(len(found))
        self.assertGreater(len(lengths), 10)

    def test_small_machines(self):
        random = Random(2)
        for _ in range(100):
            machine = some_tape(random, 2, 2)
            for word in tuples_below(2, 3):
                whole = plain_run(machine, word, 12)
                for most in range(13):
                    self.assertEqual(machine.run(word, most), whole[:most + 1])
                for one, other in zip(whole, whole[1:]):
                    self.assertEqual(machine.next(one), other)
                if whole[-1][0] == machine.states:
                    self.assertIsNone(machine.next(whole[-1]))

    def test_example(self):
        self.assertEqual(ONES.run((1,), 5), [(0, (1,), 0), (0, (1,), 1), (1, (1, 1), 2)])
        self.assertEqual(ONES.run((1,), 2), [(0, (1,), 0), (0, (1,), 1), (1, (1, 1), 2)])
        self.assertEqual(ONES.run((1,), 1), [(0, (1,), 0), (0, (1,), 1)])
        self.assertEqual(ONES.run((1,), 0), [(0, (1,), 0)])
        self.assertIsNone(ONES.next((1, (1, 1), 2)))

    def test_begin(self):
        for word, tape in ((), ()), ((0,), ()), ((0, 0), ()), ((1, 0), (1,)), ((0, 1, 0, 0), (0, 1)), ((0, 1), (0, 1)):
            self.assertEqual(ONES.begin(word), (0, tape, 0))
            self.assertEqual(ONES.run(word, 0), [(0, tape, 0)])

    def test_to_the_left_of_the_first_place(self):
        self.assertEqual(LEFT.next((0, (), 0)), (1, (2,), 0))
        self.assertEqual(LEFT.next((1, (2,), 0)), (2, (1,), 0))
        self.assertEqual(LEFT.next((0, (1, 2), 1)), (0, (1, 1), 0))

    def test_blanks_at_the_end(self):
        self.assertEqual(BLANKS.next((0, (1,), 0)), (0, (), 1))
        self.assertEqual(BLANKS.next((0, (1, 0, 0, 1), 3)), (0, (1,), 4))
        self.assertEqual(BLANKS.next((0, (1, 1), 0)), (0, (0, 1), 1))
        self.assertEqual(BLANKS.next((0, (1,), 7)), (0, (1,), 8))
        self.assertEqual(TELLS.next((0, (1,), 3)), (0, (1, 0, 0, 1), 4))
        self.assertEqual(TELLS.next((0, (), 0)), (0, (1,), 1))

    def test_ten_thousand_steps(self):
        found = RIGHT.run((1, 0, 1), 10000)
        self.assertEqual(len(found), 10001)
        self.assertEqual(found[-1], (0, (1, 0, 1), 10000))
        self.assertEqual(BLANKS.run((1,) * 200, 10000)[-1], (0, (), 10000))
        found = TELLS.run((1,) * 200, 5000)
        self.assertEqual(found[-1], (0, (1,) * 5000, 5000))
        self.assertEqual(len(ONES.run((1,) * 200, 10000)), 202)


class TestMachines(unittest.TestCase):

    def test_attributes(self):
        rows = [(1, 1, 1), (1, 1, 0)]
        machine = Tape(2, 1, rows)
        self.assertEqual((machine.marks, machine.states, machine.table()), (2, 1, rows))
        rows[0] = (0, 1, 0)
        machine.table().clear()
        machine.table()[1] = None
        self.assertEqual(machine.table(), [(1, 1, 1), (1, 1, 0)])
        self.assertEqual(machine.run((), 3), [(0, (), 0), (1, (1,), 1)])

    def test_smallest_and_greatest(self):
        for marks, states in (2, 1), (2, 20), (8, 1), (8, 20):
            rows = [(marks - 1, -1, states)] * (marks * states)
            self.assertEqual(Tape(marks, states, rows).table(), rows)

    def check(self, marks, states, rows):
        with self.assertRaises(BadMachine):
            Tape(marks, states, rows)

    def test_marks_and_states(self):
        for value in NO_INTEGERS + [-1, 0, FAR, -FAR]:
            for rows in [], [(0, 1, 0)], [(0, 1, 0)] * 2:
                self.check(value, 1, rows)
                self.check(2, value, rows)
        self.check(1, 1, [(0, 1, 0)])
        self.check(9, 1, [(0, 1, 0)] * 9)
        self.check(2, 21, [(0, 1, 0)] * 42)

    def test_rows(self):
        row = (0, 1, 0)
        for value in NO_INTEGERS + [-1, 2, FAR, -FAR]:
            self.check(2, 1, [row, (value, 1, 0)])
            self.check(2, 1, [(0, 1, value), row])
        for value in NO_INTEGERS + [-2, 0, 2, FAR, -FAR, -1.0, 1.0]:
            self.check(2, 1, [row, (0, value, 0)])
        for value in NO_TUPLES + [(), (0,), (0, 1), (0, 1, 0, 0), [0, 1, 0], "010", {0: 0, 1: 1, 2: 0}]:
            self.check(2, 1, [row, value])
        for rows in [], [row], [row] * 3, (row, row), None, True, 2, "", {0: row, 1: row}, [[0, 1, 0], [0, 1, 0]]:
            self.check(2, 1, rows)
        self.assertEqual(Tape(2, 1, [(1, -1, 1), row]).states, 1)


class TestErrors(unittest.TestCase):

    def test_words(self):
        for value in NO_TUPLES + [(2,), (0, 2), (0, FAR), [0], (0, True), (0,) * 201, (0,) * 200 + (2,)]:
            with self.assertRaises(BadRow):
                ONES.begin(value)
            for most in (0, 10001, None, True):
                with self.assertRaises(BadRow):
                    ONES.run(value, most)
        self.assertEqual(ONES.begin((1,) * 200), (0, (1,) * 200, 0))
        self.assertEqual(ONES.begin((0,) * 200), (0, (), 0))

    def test_steps(self):
        for value in NO_INTEGERS + [-1, 10001, FAR, -FAR]:
            for word in [(), (1,), (0,) * 200]:
                with self.assertRaises(BadNumber):
                    ONES.run(word, value)
        self.assertEqual(len(ONES.run((), 10000)), 2)

    def test_lists_are_new(self):
        ONES.run((1,), 5).clear()
        self.assertEqual(len(ONES.run((1,), 5)), 3)

    def test_two_by_turns(self):
        machines = [ONES, LEFT, TELLS]
        for most in range(6):
            for machine in machines:
                self.assertEqual(machine.run((1, 0, 1), most), plain_run(machine, (1, 0, 1), most))


if __name__ == "__main__":
    unittest.main()
