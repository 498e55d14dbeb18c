"""[2.1] to [2.5]: rests, what must come, and the walks of letters."""

import unittest

from samples import (
    EXAMPLE, FAR, NO_INTEGERS, NO_TUPLES, NOT_APART, NOTHING, ladder, pairs_apart, some_pairs, staged, tuples_below)

from alikeread.books import Book, Pair
from alikeread.errors import BadLetter, BadRest, NotApart, TooLong
from alikeread.rests import Reader, after, walk

EVEN = ("even", ())


def rest_between(first, second):
    """Return the rest of two texts, or None if neither begins with the other one."""
    common = min(len(first), len(second))
    if first[:common] != second[:common]:
        return None
    if len(first) > common:
        return "first", first[common:]
    return ("second", second[common:]) if len(second) > common else EVEN


def plain_after(pair, rest):
    """Try all words for the one that must come."""
    side, ahead = rest
    book = pair.second if side == "first" else pair.first
    for number, word in enumerate(book.words()):
        if word[0] == ahead[0]:
            texts = (ahead, word) if side == "first" else (word, ahead)
            behind = rest_between(texts[0], texts[1])
            return None if behind is None else (number, behind)
    return None


def plain_walk(pair, letter):
    """Follow both books by their whole texts."""
    begins = [[k for k, word in enumerate(book.words()) if word[0] == letter] for book in (pair.first, pair.second)]
    if [] in begins:
        return "missing", (), (), ()
    rows = begins
    rests = []
    while True:
        rest = rest_between(pair.first.read(tuple(rows[0])), pair.second.read(tuple(rows[1])))
        if rest is None:
            # Each further word is tried below, so only the first two can fail here.
            return "stops", (), tuple(rows[0]), tuple(rows[1])
        came = rest in rests
        rests.append(rest)
        if rest == EVEN or came:
            return ("round" if came else "block"), tuple(rests), tuple(rows[0]), tuple(rows[1])
        coming = plain_after(pair, rest)
        if coming is None:
            return "stops", tuple(rests), tuple(rows[0]), tuple(rows[1])
        rows["first" == rest[0]].append(coming[0])


class TestAfter(unittest.TestCase):

    def test_all_short_rests(self):
        for pair in list(pairs_apart(2, 2)) + list(some_pairs(1, 100, 3)):
            for word in tuples_below(pair.letters, 4, 1):
                for side in ("first", "second"):
                    rest = (side, word)
                    self.assertEqual(after(pair, rest), plain_after(pair, rest))
                    self.assertEqual(rest, (side, word))

    def test_the_word_that_must_come(self):
        self.assertEqual(after(EXAMPLE, ("first", (1,))), (1, ("second", (1,))))
        self.assertEqual(after(EXAMPLE, ("second", (1,))), (1, EVEN))
        self.assertEqual(after(EXAMPLE, ("first", (0, 0))), (0, ("first", (0,))))
        self.assertEqual(after(EXAMPLE, ("second", (0, 1, 0))), (0, ("second", (0,))))

    def test_nothing_can_come(self):
        pair = Pair(Book(3, [(0, 1), (2,)]), Book(3, [(1, 0), (0,)]))
        self.assertIsNone(after(pair, ("first", (2,))))
        self.assertIsNone(after(pair, ("first", (1, 1))))
        self.assertIsNone(after(pair, ("second", (1,))))
        self.assertIsNone(after(pair, ("second", (0, 0))))
        self.assertEqual(after(pair, ("second", (0,))), (0, ("first", (1,))))

    def test_one_book_has_no_words(self):
        pair = Pair(Book(2, [(0,)]), Book(2, []))
        self.assertIsNone(after(pair, ("first", (0,))))
        self.assertEqual(after(pair, ("second", (0,))), (0, EVEN))

    def test_long_words(self):
        pair = Pair(Book(2, [(0,) + (1,) * 4999]), Book(2, [(0,), (1,)]))
        self.assertEqual(after(pair, ("first", (1,) * 5000)), (1, ("first", (1,) * 4999)))
        self.assertEqual(after(pair, ("second", (0,))), (0, ("first", (1,) * 4999)))
        self.assertEqual(after(pair, ("second", (0,) + (1,) * 4999)), (0, EVEN))
        self.assertIsNone(after(pair, ("second", (0,) + (1,) * 4998 + (0,))))

    def test_values_that_are_no_rests(self):
        words = [()] + NO_TUPLES + [(2,), (0, 2), (FAR,), (0,) * 5001]
        sides = ["even", "", "First", "first ", "third", b"first", ("first",), ["first"]]
        wrong = [(side, word) for side in ("first", "second", "even") for word in words]
        wrong += [(side, (0,)) for side in sides + NO_INTEGERS] + NO_INTEGERS + NO_TUPLES
        wrong += [
            EVEN, ("even", (0,)), ("first",), ("first", (0,), ()), ("first", 0), ((0,), "first"), ["first", (0,)],
            ("first", (0,), (0,)), {"first": (0,)}, "first", 2, (0, (0,)), (True, (0,)), ("first", "0"),
        ]
        for value in wrong:
            with self.assertRaises(BadRest):
                after(EXAMPLE, value)

    def test_no_letters(self):
        for value in (EVEN, ("first", ()), ("second", (0,))):
            with self.assertRaises(BadRest):
                after(NOTHING, value)

    def test_not_apart_comes_first(self):
        for pair in NOT_APART:
            for rest in [("first", (0,)), ("second", (1,)), EVEN, None, 7]:
                with self.assertRaises(NotApart):
                    after(pair, rest)


class TestWalk(unittest.TestCase):

    def test_small_pairs(self):
        ends = set()
        for pair in list(pairs_apart(2, 3)) + list(some_pairs(2, 600, 4)) + list(some_pairs(3, 100, 6)):
            for letter in range(pair.letters):
                found = walk(pair, letter)
                self.assertEqual(found, plain_walk(pair, letter))
                ends.add(found[0])
        self.assertEqual(ends, {"missing", "stops", "block", "round"})

    def test_example(self):
        self.assertEqual(
            walk(EXAMPLE, 0), ("block", (("first", (1,)), ("second", (1,)), ("even", ())), (0, 1), (0, 1)))
        self.assertEqual(walk(EXAMPLE, 1), ("block", (("second", (1,)), ("even", ())), (1, 1), (1,)))

    def test_missing(self):
        for first, second in ([(0,)], [(1,)]), ([], [(0,), (1,)]), ([(1, 0)], [(0, 1)]), ([], []):
            pair = Pair(Book(2, first), Book(2, second))
            for letter in (0, 1):
                self.assertEqual(walk(pair, letter), ("missing", (), (), ()))

    def test_stops_at_once(self):
        pair = Pair(Book(2, [(1,), (0, 1)]), Book(2, [(0, 0)]))
        self.assertEqual(walk(pair, 0), ("stops", (), (1,), (0,)))

    def test_stops_later(self):
        pair = Pair(Book(3, [(1, 1), (0,)]), Book(3, [(0, 1), (1, 2)]))
        self.assertEqual(
            walk(pair, 0), ("stops", (("second", (1,)), ("first", (1,)), ("second", (2,))), (1, 0), (0, 1)))
        pair = Pair(Book(3, [(0, 1, 1)]), Book(3, [(0,), (1, 2)]))
        self.assertEqual(walk(pair, 0), ("stops", (("first", (1, 1)),), (0,), (0,)))
        pair = Pair(Book(2, [(0,)]), Book(2, [(0, 1)]))
        self.assertEqual(walk(pair, 0), ("stops", (("second", (1,)),), (0,), (0,)))

    def test_round(self):
        pair = Pair(Book(2, [(0,), (1, 1)]), Book(2, [(0, 1), (1, 1)]))
        self.assertEqual(
            walk(pair, 0), ("round", (("second", (1,)), ("first", (1,)), ("second", (1,))), (0, 1), (0, 1)))
        self.assertEqual(
            walk(pair.swapped(), 0), ("round", (("first", (1,)), ("second", (1,)), ("first", (1,))), (0, 1), (0, 1)))

    def test_round_through_ends_of_different_words(self):
        # The rest (2,) ends the word 0 of the second book first, and then its word 1.
        pair = Pair(Book(3, [(0,), (2, 1)]), Book(3, [(0, 2), (1, 2)]))
        self.assertEqual(
            walk(pair, 0), ("round", (("second", (2,)), ("first", (1,)), ("second", (2,))), (0, 1), (0, 1)))

    def test_no_round_through_ends_that_are_as_long(self):
        # The rests (2, 0) and (2, 3) end different words, and are as long as one another.
        pair = Pair(Book(5, [(0,), (2, 0, 1), (3,)]), Book(5, [(0, 2, 0), (1, 2, 3)]))
        self.assertEqual(
            walk(pair, 0), ("stops", (("second", (2, 0)), ("first", (1,)), ("second", (2, 3))), (0, 1), (0, 1)))

    def test_unlike_numbers_of_words(self):
        pair = Pair(Book(3, [(0, 1, 2)]), Book(3, [(2,), (1,), (0,)]))
        self.assertEqual(
            walk(pair, 0), ("block", (("first", (1, 2)), ("first", (2,)), EVEN), (0,), (2, 1, 0)))
        self.assertEqual(
            walk(pair.swapped(), 0), ("block", (("second", (1, 2)), ("second", (2,)), EVEN), (2, 1, 0), (0,)))

    def test_ten_thousand_rests(self):
        for ending, end in ((5,), "block"), ((5, 2), "round"), ((5, 4), "stops"):
            found, rests, first, second = walk(ladder(4998, ending), 0)
            self.assertEqual((found, len(rests)), (end, 10000))
            self.assertEqual(first, (0,) + (3,) * 4998 + (4,))
            self.assertEqual(second, (0,) + (1,) * 4998 + (2, 4))
            # The same one rest later.
            with self.assertRaises(TooLong):
                walk(ladder(4998, (5,) + ending), 0)
        self.assertEqual(walk(ladder(4998, (5,)), 0)[1][-2:], (("first", (5,)), EVEN))
        self.assertEqual(walk(ladder(4997, (5, 5)), 0)[0], "block")

    def test_many_stages(self):
        for many, ones in (1, 1), (1, 5), (2, 3), (3, 2), (25, 399):
            pair = staged(many, ones)
            end, rests, first, second = walk(pair, 0)
            self.assertEqual((end, len(rests)), ("block", many * ones + many - 1 if many > 1 else ones))
            texts = pair.first.read(first), pair.second.read(second)
            self.assertEqual(texts[0], texts[1])
            if ones < 10:
                self.assertEqual((end, rests, first, second), plain_walk(pair, 0))

    def test_as_many_rests_as_there_may_be(self):
        # The limit of the promise is 10000; here it is tried with all smaller ones.
        ends = {}
        pairs = list(some_pairs(6, 400, 4)) + list(some_pairs(7, 2500, 3, 9)) + [staged(3, 2), staged(2, 4)]
        for pair in pairs:
            for letter in range(pair.letters):
                plain = plain_walk(pair, letter)
                for most in range(1, len(plain[1]) + 3):
                    if len(plain[1]) > most:
                        with self.assertRaises(TooLong):
                            Reader(pair).way(letter, most)
                    else:
                        end, states, rows = Reader(pair).way(letter, most)
                        found = end, len(states), tuple(rows[0]), tuple(rows[1])
                        self.assertEqual(found, (plain[0], len(plain[1])) + plain[2:])
                        ends[end] = max(ends.get(end, 0), len(states))
        self.assertTrue(all(ends[end] > 5 for end in ("block", "round", "stops")), ends)

    def test_each_walk_ends(self):
        for pair in list(pairs_apart(2, 3)) + list(some_pairs(4, 300, 5)):
            words = pair.first.words() + pair.second.words()
            for letter in range(pair.letters):
                rests = walk(pair, letter)[1]
                self.assertLess(len(set(rests)), max(1, sum(len(word) for word in words)))
                for side, left in rests:
                    book = {"first": pair.first, "second": pair.second}.get(side)
                    if book is not None:
                        self.assertIn(left, [word[len(word) - len(left):] for word in book.words()])

    def test_each_rest_tells_the_next_one(self):
        for pair in list(pairs_apart(2, 3)) + list(some_pairs(5, 300, 5)):
            for letter in range(pair.letters):
                end, rests, _, _ = walk(pair, letter)
                for one, other in zip(rests, rests[1:]):
                    self.assertEqual(after(pair, one)[1], other)
                if end == "stops" and rests:
                    self.assertIsNone(after(pair, rests[-1]))
                self.assertEqual(len(set(rests)), len(rests) - (end == "round"))
                self.assertEqual(rests[-1:] == (EVEN,), end == "block")

    def test_values_that_are_no_letters(self):
        for pair in (EXAMPLE, NOTHING, ladder(4998, (5, 5))):
            for value in NO_INTEGERS + [-1, -FAR, FAR, pair.letters, pair.letters + 1, 60]:
                with self.assertRaises(BadLetter):
                    walk(pair, value)

    def test_not_apart_comes_first(self):
        for pair in NOT_APART:
            for letter in [0, 1, 2, -1, None, True, ()]:
                with self.assertRaises(NotApart):
                    walk(pair, letter)


if __name__ == "__main__":
    unittest.main()
