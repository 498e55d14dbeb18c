"""[0.4], [0.5]: what holds of the whole program."""

import unittest

from samples import EXAMPLE, FAR, NO_INTEGERS, NO_TUPLES, ONES, beside, hill

from alikeread import blocks, chain, counts, many, papers, papertext, primes, rests, search
from alikeread.books import Book, Pair
from alikeread.booktext import book_of, book_text, pair_of, pair_text
from alikeread.errors import (
    AlikeError, BadBook, BadLetter, BadMachine, BadNumber, BadPaper, BadRest, BadRow, BadText, NotApart, TooLong)
from alikeread.far import Far
from alikeread.machine import Machine, both, pulled
from alikeread.stair import Stair
from alikeread.tape import Tape
from alikeread.within import Within

EVEN = ("even", ())
PAIRS = [EXAMPLE, beside([EXAMPLE, EXAMPLE]), hill([3], [3])]
ODD = Pair(Book(2, [(0,), (0, 1)]), Book(2, [(0,), (0, 1)]))


def of_pairs():
    """Return functions of a pair that ask something of each part of the program."""
    return {
        "lesser": lambda pair: shape(chain.lesser(pair)),
        "chain": lambda pair: [shape(one) for one in chain.chain(pair)[0]],
        "alike_letters": chain.alike_letters,
        "suffixes": lambda pair: chain.suffixes(pair.second),
        "walk": lambda pair: [rests.walk(pair, letter) for letter in range(pair.letters)],
        "after": lambda pair: rests.after(pair, ("first", (1,))),
        "blocks": blocks.blocks,
        "block": lambda pair: blocks.block(pair, 0),
        "made": lambda pair: blocks.made(pair, (0, 0)),
        "split": lambda pair: blocks.split(pair, blocks.made(pair, (0, 0))[0]),
        "texts_of": lambda pair: [blocks.texts_of(pair, length) for length in range(9)],
        "text_at": lambda pair: [blocks.text_at(pair, number) for number in range(9)],
        "number_of": lambda pair: blocks.number_of(pair, (1, 1, 0)),
        "primes": primes.primes,
        "is_alike": lambda pair: primes.is_alike(pair, (0, 1)),
        "in_primes": lambda pair: primes.in_primes(pair, (0, 1, 0, 1)),
        "row_made": lambda pair: primes.row_made(pair, (0, 0)),
        "far": lambda pair: [Far(pair).numbers_in(0), Far(pair).stretch(0, 0, 9), Far(pair).place_of(0, 1, 0)],
        "prime_lengths": counts.prime_lengths,
        "counts": lambda pair: counts.counts(pair, 9),
        "row_at": lambda pair: [counts.row_at(pair, number) for number in range(5)],
        "number_of_row": lambda pair: counts.number_of(pair, (0, 1, 1)),
        "between": lambda pair: counts.between(pair, (), (1, 1, 1, 1)),
        "least": counts.least,
        "primes_of_all": lambda pair: many.primes_of_all([pair.first, pair.second]).words(),
        "within": lambda pair: Within([pair.first, pair.second], everything(pair)).counts(9),
        "search": lambda pair: search.search(pair, 50),
        "step": lambda pair: search.step(pair, EVEN, 0),
        "rest_of": lambda pair: search.rest_of(pair, (0, 1)),
        "alike_rows": lambda pair: search.alike_rows(pair, 8),
        "prime_rows": lambda pair: search.prime_rows(pair, 8),
        "paper": papers.paper,
        "fault": lambda pair: papers.fault(pair, papers.paper(pair)),
        "shown": lambda pair: papers.shown(pair, papers.paper(pair)),
        "paper_text": lambda pair: papertext.paper_text(papers.paper(pair)),
        "pair_text": pair_text,
    }


def everything(pair):
    return Machine(1, pair.first.size, [0] * pair.first.size, (0,))


def shape(pair):
    return pair.letters, pair.first.letters, pair.second.letters, pair.first.words(), pair.second.words()


class TestByTurns(unittest.TestCase):

    def test_pairs_asked_by_turns_tell_the_same_as_alone(self):
        asked = of_pairs()
        alone = [{name: ask(pair) for name, ask in asked.items()} for pair in PAIRS]
        shapes = [shape(pair) for pair in PAIRS]
        for name, ask in asked.items():
            for _ in range(2):
                for pair, told in zip(PAIRS, alone):
                    self.assertEqual(ask(pair), told[name], name)
        self.assertEqual([shape(pair) for pair in PAIRS], shapes)
        # The same pairs, made anew, tell the same.
        for pair, told in zip(PAIRS, alone):
            for name, ask in asked.items():
                self.assertEqual(ask(pair_of(pair_text(pair))), told[name], name)

    def test_lists_that_come_back_may_be_changed(self):
        for pair in PAIRS:
            for name, ask in of_pairs().items():
                told = ask(pair)
                kept = repr(told)
                if isinstance(told, list):
                    told.append(None)
                    told.reverse()
                    told.clear()
                self.assertEqual(repr(ask(pair)), kept, name)
            pairs, _ = chain.chain(pair)
            pairs[0].first = pairs[0].second = None
            pairs.clear()
            self.assertIsInstance(pair.first, Book)

    def test_objects_by_turns(self):
        fars = [Far(pair) for pair in PAIRS]
        withins = [Within([pair.first, pair.second], everything(pair)) for pair in PAIRS]
        stairs = [Stair(ONES, word) for word in ((), (1,), (1, 1))]
        told = [
            [(far.length(0), far.numbers_in(0), far.before(0, 1, 1)) for far in fars],
            [(within.counts(8), within.least()) for within in withins],
            [(stair.row_of(9), stair.run_of(stair.row_of(9))) for stair in stairs]]
        for k in (2, 0, 1, 1, 0, 2):
            self.assertEqual((fars[k].length(0), fars[k].numbers_in(0), fars[k].before(0, 1, 1)), told[0][k])
            self.assertEqual((withins[k].counts(8), withins[k].least()), told[1][k])
            self.assertEqual((stairs[k].row_of(9), stairs[k].run_of(stairs[k].row_of(9))), told[2][k])
            fars[k].numbers_in(0).clear()
            withins[k].counts(8).clear()
            stairs[k].run_of(stairs[k].row_of(9))[0].clear()

    def test_lists_that_are_handed_in_may_be_changed(self):
        words, table, rows = [(0, 1), (1,)], [1, 1, 0, 0], [(1, 1, 1), (1, 1, 0)]
        book, machine, tape = Book(2, words), Machine(2, 2, table, (0,)), Tape(2, 1, rows)
        books = [EXAMPLE.first, EXAMPLE.second]
        within = Within(books, machine)
        stair = Stair(tape, (1,))
        for handed in (words, table, rows, books):
            handed.reverse()
            handed.pop()
        self.assertEqual((book.words(), machine.table(), len(tape.table())), ([(0, 1), (1,)], [1, 1, 0, 0], 2))
        self.assertEqual((within.counts(4), len(stair.row_of(9))), ([0, 0, 1, 0, 1], 19))
        for told in (book.words(), machine.table(), tape.table()):
            told.clear()
        self.assertEqual((book.words(), machine.table(), len(tape.table())), ([(0, 1), (1,)], [1, 1, 0, 0], 2))
        self.assertEqual(book_of(book_text(book)).words(), [(0, 1), (1,)])


class TestTrueAndFalse(unittest.TestCase):

    def test_they_are_no_integers_and_no_numbers(self):
        pair, far, within = EXAMPLE, Far(EXAMPLE), Within([EXAMPLE.first, EXAMPLE.second], everything(EXAMPLE))
        stair, found = Stair(ONES, (1,)), papers.paper(EXAMPLE)
        for value in True, False:
            self.check(BadBook, [lambda: Book(value, []), lambda: Book(2, [(value,)])])
            self.check(BadLetter, [lambda: rests.walk(pair, value), lambda: blocks.block(pair, value)])
            self.check(BadRest, [
                lambda: rests.after(pair, ("first", (value,))), lambda: search.step(pair, ("first", (value,)), 0)])
            self.check(BadMachine, [
                lambda: Machine(value, 0, [], ()), lambda: Machine(1, value, [], ()),
                lambda: Machine(1, 1, [value], ()), lambda: Machine(2, 0, [], (value,)), lambda: Tape(value, 1, []),
                lambda: Tape(2, value, []), lambda: Tape(2, 1, [(0, value, 0), (0, 1, 0)])])
            self.check(BadNumber, [
                lambda: pair.first.word(value), lambda: blocks.texts_of(pair, value), lambda: blocks.text_at(pair, value),
                lambda: far.length(value), lambda: far.at(0, value), lambda: far.stretch(0, 0, value),
                lambda: far.before(0, value, 0), lambda: far.place_of(0, 0, value), lambda: counts.counts(pair, value),
                lambda: counts.count_at(pair, value), lambda: counts.row_at(pair, value), lambda: within.counts(value),
                lambda: within.row_at(value, 0), lambda: within.row_at(2, value), lambda: search.search(pair, value),
                lambda: search.step(pair, EVEN, value), lambda: search.alike_rows(pair, value),
                lambda: search.prime_rows(pair, value), lambda: ONES.run((1,), value), lambda: stair.row_of(value),
                lambda: papers.pair_at(pair, found, value), lambda: papers.alike_at(pair, found, value),
                lambda: everything(pair).after(value, ())])
            self.check(BadRow, [
                lambda: pair.first.read((value,)), lambda: pair.first.length((value,)),
                lambda: pair.first.row_of((value,)), lambda: blocks.split(pair, (value,)),
                lambda: blocks.made(pair, (value,)), lambda: blocks.number_of(pair, (value,)),
                lambda: primes.is_alike(pair, (value,)), lambda: primes.in_primes(pair, (value,)),
                lambda: primes.row_made(pair, (value,)), lambda: counts.number_of(pair, (value,)),
                lambda: counts.between(pair, (value,), ()), lambda: many.are_alike([pair.first], (value,)),
                lambda: within.number_of((value,)), lambda: search.rest_of(pair, (value,)),
                lambda: everything(pair).takes_row((value,)), lambda: ONES.begin((value,)),
                lambda: Stair(ONES, (value,)), lambda: stair.run_of((value,)), lambda: stair.steps_of((value,))])
            self.check(BadPaper, [
                lambda: papertext.paper_text((((),), value)), lambda: papers.shown(pair, (found[0], value)),
                lambda: papertext.paper_text(((("block", (value,), (0,)),), 0))])
            self.assertEqual(search.fault_of(pair, (("first", (value,)),)), "form")
            self.assertEqual(papers.fault(pair, (found[0], value)), (-1, -1))

    def check(self, error, asked):
        for ask in asked:
            with self.assertRaises(error):
                ask()


class TestErrors(unittest.TestCase):

    def test_values_of_any_kind_raise_errors_of_the_program(self):
        pair, found = EXAMPLE, papers.paper(EXAMPLE)
        within, stair = Within([EXAMPLE.first], everything(EXAMPLE)), Stair(ONES, (1,))
        functions = [
            lambda value: Book(value, value), lambda value: Book(2, value), lambda value: Machine(value, 0, [], ()),
            lambda value: Machine(1, 1, value, ()), lambda value: Tape(value, value, value),
            lambda value: Tape(2, 1, value), lambda value: rests.walk(pair, value), lambda value: rests.after(pair, value),
            lambda value: search.step(pair, value, value), lambda value: search.search(pair, value),
            lambda value: papers.pair_at(pair, value, value), lambda value: papers.pair_at(pair, found, value),
            lambda value: papers.shown(pair, value), papertext.paper_text, within.number_of, within.counts, stair.run_of,
            stair.row_of, lambda value: papers.alike_at(pair, found, value)]
        for value in NO_INTEGERS + NO_TUPLES + [FAR, -FAR]:
            if value in ([], [0]):
                continue
            for ask in functions:
                try:
                    ask(value)
                except AlikeError as error:
                    self.assertIn(type(error).__bases__, [(AlikeError,)])
                except (TypeError, KeyError, IndexError, AttributeError, RecursionError) as error:
                    self.fail(f"{type(error)} at {value!r:.50}")
                except ValueError as error:
                    self.fail(f"{type(error)} at {value!r:.50}")

    def test_each_is_caught_as_an_alike_error_alone(self):
        errors = [BadBook, BadNumber, BadRow, BadLetter, BadRest, NotApart, TooLong, BadMachine, BadPaper, BadText]
        asked = [
            lambda: Book(61, []), lambda: EXAMPLE.first.word(9), lambda: EXAMPLE.first.read((9,)),
            lambda: rests.walk(EXAMPLE, 9), lambda: rests.after(EXAMPLE, EVEN), lambda: chain.chain(ODD),
            lambda: counts.row_at(EXAMPLE, FAR), lambda: pulled(everything(EXAMPLE), Book(9, [])),
            lambda: papers.shown(EXAMPLE, ()), lambda: papertext.paper_of("")]
        for error, ask in zip(errors, asked):
            with self.assertRaises(AlikeError) as caught:
                ask()
            self.assertIs(type(caught.exception), error)
        with self.assertRaises(BadMachine):
            both(everything(EXAMPLE), Machine(1, 0, [], ()))


if __name__ == "__main__":
    unittest.main()
