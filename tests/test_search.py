"""[6.1] to [6.9]: steps, rests, the search, closed lists and all rows up to a length."""

import unittest
from itertools import product
from random import Random

from samples import (
    EXAMPLE, FAR, NO_INTEGERS, NO_TUPLES, NOT_EVEN, NOTHING, alike_rows as plain_alike, even_pairs, small_books,
    tuples_below)

from alikeread.books import Book, Pair
from alikeread.counts import least
from alikeread.errors import BadBook, BadNumber, BadRest, BadRow, TooLong
from alikeread.primes import primes
from alikeread.search import alike_rows, fault_of, prime_rows, rest_of, search, step

EVEN = ("even", ())
# The pairs of the example of the document.
OPEN = Pair(Book(2, [(0, 1), (0, 0)]), Book(2, [(0,), (1, 0)]))
FOUND = Pair(Book(2, [(0, 1), (0,)]), Book(2, [(0,), (1, 0)]))
# The row (1,) is alike, though the search comes to other rests, too.
SHORT = Pair(Book(2, [(0, 0), (0,)]), Book(2, [(0,), (0,)]))
# Behind 0 the first book is ahead by a letter 1, and behind 1 by a letter 2, without end.
CLOSED = Pair(Book(3, [(0, 1), (2, 1), (0, 2)]), Book(3, [(0,), (1, 2), (0,)]))
NO_RESTS = [None, True, 0, "even", [], ["first", (0,)], {"first": (0,)}, (), ("first",), ("even",), ("first", (0,), 0)]


def rest_between(first, second):
    """Return the rest of two texts, or None."""
    common = min(len(first), len(second))
    if first[:common] != second[:common]:
        return None
    if len(first) == len(second):
        return EVEN
    return ("first", first[common:]) if len(first) > common else ("second", second[common:])


def plain_step(pair, rest, number):
    texts = {"first": (rest[1], ()), "second": ((), rest[1]), "even": ((), ())}[rest[0]]
    return rest_between(texts[0] + pair.first.word(number), texts[1] + pair.second.word(number))


def plain_search(pair, most):
    """Search as the document tells, with whole texts instead of rests."""
    found = []
    rows = [()]
    while rows:
        row = rows.pop(0)
        for number in range(pair.first.size):
            longer = row + (number,)
            rest = rest_between(pair.first.read(longer), pair.second.read(longer))
            if rest is None or rest in found:
                continue
            if rest == EVEN:
                return "row", longer
            if len(found) == most or len(rest[1]) > 5000:
                return "open", len(found)
            found.append(rest)
            rows.append(longer)
    return "none", tuple(found)


def some_pairs(seed, many, letters, size, longest):
    """Give pairs with equally many words that need not start apart."""
    random = Random(seed)
    for _ in range(many):
        base = random.randint(1, letters)
        words = [[], []]
        for _ in range(random.randint(1, size)):
            for found in words:
                found.append(tuple(random.randrange(base) for _ in range(random.randint(1, longest))))
        yield Pair(Book(base, words[0]), Book(base, words[1]))


def small_pairs():
    """Return all pairs of small books with equally many words, and some others."""
    books = list(small_books(2, 2, 2))
    pairs = [Pair(one, other) for one, other in product(books, repeat=2) if one.size == other.size]
    return pairs[::3] + list(some_pairs(1, 200, 2, 3, 3)) + list(some_pairs(2, 60, 3, 4, 3)) + [OPEN, FOUND, SHORT, CLOSED]


def ones(firsts, seconds):
    """Return the pair of the books with words of one letter, so many times."""
    return Pair(Book(1, [(0,) * many for many in firsts]), Book(1, [(0,) * many for many in seconds]))


def levels(one, two, three, ends):
    """Return a pair with so many rows of one number, each of which goes on so many times, and so on.

    Those of three numbers are alike, or else nothing can come behind them.
    """
    firsts = [(0, 1)] * one + [(2, 3)] * two + [(4,) if ends else (4, 5)] * three
    seconds = [(0,)] * one + [(1, 2)] * two + [(3, 4)] * three
    return Pair(Book(6, firsts), Book(6, seconds))


def is_closed(pair, rests):
    behind = [plain_step(pair, rest, number) for rest in (EVEN,) + rests for number in range(pair.first.size)]
    return all(rest is None or rest in rests for rest in behind) and EVEN not in behind


class TestStep(unittest.TestCase):

    def test_all_short_rests(self):
        for pair in small_pairs()[::4]:
            words = list(tuples_below(pair.letters, 3, 1))
            for rest in [EVEN] + [(side, word) for side in ("first", "second") for word in words]:
                for number in range(pair.first.size):
                    self.assertEqual(step(pair, rest, number), plain_step(pair, rest, number))

    def test_example(self):
        self.assertEqual(step(OPEN, EVEN, 0), ("first", (1,)))
        self.assertIsNone(step(OPEN, EVEN, 1))
        self.assertEqual(step(OPEN, ("first", (1,)), 1), ("first", (0,)))
        self.assertEqual(step(FOUND, ("first", (1,)), 1), EVEN)
        self.assertEqual(step(OPEN, ("second", (0, 1)), 0), ("second", (0,)))
        self.assertIsNone(step(OPEN, ("second", (1,)), 0))

    def test_five_thousand_letters(self):
        pair = ones([5000, 1, 5000], [1, 5000, 5000])
        self.assertEqual(step(pair, EVEN, 0), ("first", (0,) * 4999))
        self.assertEqual(step(pair, ("first", (0,)), 0), ("first", (0,) * 5000))
        self.assertEqual(step(pair, ("second", (0,)), 1), ("second", (0,) * 5000))
        self.assertEqual(step(pair, ("second", (0,) * 4999), 0), EVEN)
        self.assertEqual(step(pair, ("second", (0,) * 5000), 2), ("second", (0,) * 5000))
        for rest, number in (("first", (0,) * 2), 0), (("first", (0,) * 5000), 0), (("second", (0,) * 2), 1):
            with self.assertRaises(TooLong):
                step(pair, rest, number)
        # A rest that does not go on is none, however long it would be.
        pair = Pair(Book(2, [(0,) * 5000]), Book(2, [(1,)]))
        self.assertIsNone(step(pair, ("first", (0,) * 5000), 0))

    def test_values_that_are_no_rests(self):
        words = NO_TUPLES + [(), (2,), (0, 2), (FAR,), (0,) * 5001, (1,) * 4999 + (2, 0)]
        wrong = NO_RESTS + NO_TUPLES + [(side, word) for side in ("first", "second") for word in words]
        wrong += [("even", word) for word in NO_TUPLES + [(0,), [], "", None]]
        wrong += [(side, word) for side in NO_INTEGERS + ["", "Even", "third"] for word in ((), (0,))]
        for value in wrong:
            for number in (0, 2, None):
                with self.assertRaises(BadRest):
                    step(OPEN, value, number)
        with self.assertRaises(BadRest):
            step(NOTHING, ("first", (0,)), 0)

    def test_values_that_are_no_numbers(self):
        for value in NO_INTEGERS + [-1, 2, FAR, -FAR]:
            for rest in (EVEN, ("first", (0,)), ("second", (0,) * 5000)):
                with self.assertRaises(BadNumber):
                    step(OPEN, rest, value)
        with self.assertRaises(BadNumber):
            step(NOTHING, EVEN, 0)


class TestRestOf(unittest.TestCase):

    def test_all_short_rows(self):
        for pair in small_pairs()[::3]:
            for row in tuples_below(pair.first.size, 4):
                texts = pair.first.read(row), pair.second.read(row)
                self.assertEqual(rest_of(pair, row), rest_between(texts[0], texts[1]))

    def test_example(self):
        rests = [rest_of(OPEN, row) for row in [(), (0,), (1,), (0, 1), (0, 1, 0), (0, 1, 0, 0)]]
        self.assertEqual(rests, [
            EVEN, ("first", (1,)), None, ("first", (0,)), ("first", (0, 1)), ("first", (1, 0, 1))])
        self.assertEqual(rest_of(FOUND, (0, 1)), EVEN)

    def test_long_rows(self):
        pair = ones([2, 1], [1, 2])
        self.assertEqual(rest_of(pair, (0,) * 5000), ("first", (0,) * 5000))
        self.assertEqual(rest_of(pair, (1,) * 5000), ("second", (0,) * 5000))
        self.assertEqual(rest_of(pair, ((0,) * 5000 + (1,) * 10000 + (0,) * 5000) * 3), EVEN)
        self.assertEqual(rest_of(pair, (0, 1) * 60000), EVEN)
        for row in (0,) * 5001, (0,) * 5001 + (1,) * 5001, (0,) * 5000 + (1,) * 10001:
            with self.assertRaises(TooLong):
                rest_of(pair, row)
        # What is too long behind a step that returns None does not matter.
        pair = Pair(Book(2, [(0, 0), (0,)]), Book(2, [(0,), (1,)]))
        self.assertIsNone(rest_of(pair, (1,) + (0,) * 6000))
        self.assertIsNone(rest_of(pair, (0,) * 5000 + (1, 0)))
        with self.assertRaises(TooLong):
            rest_of(pair, (0,) * 5001 + (1,))

    def test_values_that_are_no_rows(self):
        for value in NO_TUPLES + [(2,), (1, 2), (0, FAR), [0, 1], (0, True), (1,) * 6000 + (2,)]:
            with self.assertRaises(BadRow):
                rest_of(OPEN, value)
        with self.assertRaises(BadRow):
            rest_of(NOTHING, (0,))
        self.assertEqual(rest_of(NOTHING, ()), EVEN)


class TestSearch(unittest.TestCase):

    def test_against_whole_texts(self):
        ends = {}
        for pair in small_pairs():
            for most in (1, 2, 3, 10):
                found = search(pair, most)
                self.assertEqual(found, plain_search(pair, most))
                ends[found[0]] = ends.get(found[0], 0) + 1
        self.assertTrue(all(many > 50 for many in ends.values()))
        self.assertEqual(sorted(ends), ["none", "open", "row"])

    def test_least_row(self):
        for pair in small_pairs():
            end, found = search(pair, 200)
            rows = plain_alike(pair, {1: 6, 2: 6, 3: 5}.get(pair.first.size, 3))
            if end == "row":
                self.assertEqual(pair.first.read(found), pair.second.read(found))
                self.assertIn(found, rows[:1] if rows else [found])
            elif end == "none":
                self.assertEqual(rows, [])

    def test_the_order_of_finding(self):
        self.assertEqual(search(SHORT, 5), ("row", (1,)))
        self.assertEqual(search(SHORT, 1), ("row", (1,)))
        # Each rest is told once, and those behind it come behind all that were found before.
        pair = Pair(
            Book(6, [(0, 2), (0, 1), (0, 1), (3, 4), (4,)]), Book(6, [(0,), (0,), (0,), (1, 3), (2,)]))
        rests = (("first", (2,)), ("first", (1,)), ("first", (4,)))
        self.assertEqual(search(pair, 3), ("none", rests))
        self.assertEqual(search(pair, 2), ("open", 2))
        # Two rows of two numbers are alike; the first rest leads to the second one of them.
        pair = Pair(Book(3, [(0, 1), (0, 2), (1,), (2,)]), Book(3, [(0,), (0,), (2, 1), (1, 2)]))
        self.assertEqual(plain_alike(pair, 2), [(0, 3), (1, 2)])
        self.assertEqual(search(pair, 2), ("row", (0, 3)))

    def test_pairs_that_start_apart(self):
        many = 0
        for pair in even_pairs():
            end, found = search(pair, 300)
            if end == "row":
                self.assertEqual(found, least(pair))
                many += 1
            elif end == "none":
                self.assertIsNone(least(pair))
        self.assertGreater(many, 100)

    def test_swapped_and_greater_most(self):
        for pair in small_pairs():
            before = None
            for most in (1, 2, 4, 8, 40):
                found = search(pair, most)
                swapped = search(pair.swapped(), most)
                if found[0] == "none":
                    sides = {"first": "second", "second": "first"}
                    self.assertEqual(swapped, ("none", tuple((sides[side], word) for side, word in found[1])))
                else:
                    self.assertEqual(swapped, found)
                if before is not None and before[0] != "open":
                    self.assertEqual(found, before)
                before = found

    def test_example(self):
        self.assertEqual(search(OPEN, 3), ("open", 3))
        self.assertEqual(search(FOUND, 3), ("row", (0, 1)))

    def test_how_many_may_be_found(self):
        for ahead in (1, 2, 50):
            # Behind so many rests the next step ends the search, or one finds one more rest first.
            pair = Pair(Book(2, [(1,), (0, 0)]), Book(2, [(0,) * ahead + (1,), (0,)]))
            for most in (ahead, ahead + 1, 5000):
                self.assertEqual(search(pair, most), ("row", (1,) * ahead + (0,)))
            for most in range(1, ahead):
                self.assertEqual(search(pair, most), ("open", most))
            pair = Pair(Book(2, [(0, 0), (1,)]), Book(2, [(0,), (0,) * ahead + (1,)]))
            for most in (ahead + 1, ahead + 2, 5000):
                self.assertEqual(search(pair, most), ("row", (0,) * ahead + (1,)))
            for most in range(1, ahead + 1):
                self.assertEqual(search(pair, most), ("open", most))
        # No rest is found at all.
        pair = Pair(Book(2, [(0,), (1,)]), Book(2, [(1,), (0,)]))
        self.assertEqual(search(pair, 1), ("none", ()))
        self.assertEqual(search(NOTHING, 1), ("none", ()))
        # Just one rest, and everything is looked at.
        pair = Pair(Book(2, [(0, 1)]), Book(2, [(0,)]))
        self.assertEqual(search(pair, 1), ("none", (("first", (1,)),)))

    def test_five_thousand_rests(self):
        pair = ones([2], [1])
        self.assertEqual(search(pair, 5000), ("open", 5000))
        self.assertEqual(search(pair, 4999), ("open", 4999))
        pair = ones([3], [1])
        self.assertEqual(search(pair, 5000), ("open", 2500))
        pair = Pair(Book(2, [(0, 0), (1,)]), Book(2, [(0,), (0,) * 4999 + (1,)]))
        self.assertEqual(search(pair, 5000), ("row", (0,) * 4999 + (1,)))
        self.assertEqual(search(pair, 4998), ("open", 4998))

    def test_rests_of_five_thousand_letters(self):
        for ones_read, end in (4999, "none"), (4998, "open"):
            pair = Pair(Book(3, [(0,) + (1,) * 4999, (2,) * 5000]), Book(3, [(0,), (1,) * ones_read]))
            rests = (("first", (1,) * 4999), ("first", (2,) * 5000))
            self.assertEqual(search(pair, 10), ("none", rests) if end == "none" else ("open", 1))
            swapped = tuple(("second", word) for _, word in rests)
            self.assertEqual(search(pair.swapped(), 10), ("none", swapped) if end == "none" else ("open", 1))

    def test_several_words_that_all_go_on(self):
        pair = ones(range(2, 62), [1] * 60)
        self.assertEqual(search(pair, 5000), ("open", 5000))
        pair = ones([3] * 59 + [1], [1] * 59 + [2])
        self.assertEqual(search(pair, 5000), ("row", (0, 59, 59)))

    def test_values_that_are_no_numbers(self):
        for pair in (OPEN, FOUND, NOTHING):
            for value in NO_INTEGERS + [0, -1, 5001, FAR, -FAR]:
                with self.assertRaises(BadNumber):
                    search(pair, value)


class TestFaultOf(unittest.TestCase):

    def closed_pairs(self):
        for pair in small_pairs():
            end, rests = search(pair, 60)
            if end == "none":
                yield pair, rests

    def test_searches_that_find_none(self):
        many = 0
        for pair, rests in self.closed_pairs():
            self.assertIsNone(fault_of(pair, rests))
            self.assertIsNone(fault_of(pair, rests[::-1]))
            many += len(rests) > 1
        self.assertGreater(many, 10)

    def test_left_out_added_doubled_or_changed(self):
        seen = set()
        for pair, rests in self.closed_pairs():
            begins = [plain_step(pair, EVEN, number) for number in range(pair.first.size)]
            for k in range(len(rests)):
                without = rests[:k] + rests[k + 1:]
                # Each closed list holds all rests of the search.
                told = fault_of(pair, without)
                self.assertEqual(told, "begin" if rests[k] in begins else "step")
                seen.add(told)
                self.assertEqual(fault_of(pair, rests[:k] + rests[k:k + 1] + rests[k:]), "form")
                side, word = rests[k]
                for changed in (side, word + (0,)), (side, word[1:]), ({"first": "second"}.get(side, "first"), word):
                    value = rests[:k] + (changed,) + rests[k + 1:]
                    self.check_value(pair, value)
                    seen.add(fault_of(pair, value))
            for side, word in product(("first", "second"), tuples_below(pair.letters, 3, 1)):
                self.check_value(pair, rests + ((side, word),))
        self.assertEqual(seen, {"form", "begin", "step"})

    def check_value(self, pair, value):
        """Look at a tuple of rests the plain way."""
        if ("even", ()) in value or len(set(value)) < len(value) or any(word == () for _, word in value):
            self.assertEqual(fault_of(pair, value), "form")
            return
        found = fault_of(pair, value)
        begins = [plain_step(pair, EVEN, number) for number in range(pair.first.size)]
        if any(rest is not None and rest not in value for rest in begins):
            self.assertEqual(found, "begin")
        else:
            self.assertEqual(found, None if is_closed(pair, value) else "step")

    def test_closed_lists_of_more_rests(self):
        self.assertEqual(search(CLOSED, 5), ("none", (("first", (1,)), ("first", (2,)))))
        rests = search(CLOSED, 5)[1]
        # From the second of these more rests a step leads to the first one.
        for more in (("second", (1,)),), (("second", (1,)), ("second", (0, 1, 1))), (("first", (0,)),):
            self.assertEqual(fault_of(CLOSED, rests + more), None if is_closed(CLOSED, rests + more) else "step")
        self.assertIsNone(fault_of(CLOSED, rests + (("second", (1,)),)))
        self.assertEqual(fault_of(CLOSED, ()), "begin")
        self.assertIsNone(fault_of(NOTHING, ()))
        self.assertIsNone(fault_of(Pair(Book(2, []), Book(2, [])), (("first", (0, 1)), ("second", (0, 1)))))
        self.assertIsNone(fault_of(Pair(Book(2, [(0,)]), Book(2, [(1,)])), ()))

    def test_begin_comes_ahead_of_step(self):
        self.assertEqual(fault_of(FOUND, (("first", (1,)),)), "step")
        self.assertEqual(fault_of(FOUND, (("first", (0,)),)), "begin")
        self.assertEqual(fault_of(SHORT, (("first", (0,)),)), "begin")
        self.assertEqual(fault_of(CLOSED, (("first", (1,)),)), "begin")
        self.assertEqual(fault_of(OPEN, (("first", (1,)),)), "step")

    def test_long_rests(self):
        pair = ones([2], [1])
        rests = tuple(("first", (0,) * many) for many in range(1, 5001))
        # The rest behind the longest one has 5001 letters, so it is missing.
        self.assertEqual(fault_of(pair, rests), "step")
        self.assertEqual(fault_of(pair, rests + (("first", (0,) * 5001),)), "form")
        pair = Pair(Book(3, [(0,) + (1,) * 4999, (2,) * 5000]), Book(3, [(0,), (1,) * 4999]))
        rests = search(pair, 10)[1]
        self.assertEqual([len(word) for _, word in rests], [4999, 5000])
        self.assertIsNone(fault_of(pair, rests))

    def test_values_of_any_kind(self):
        rest = ("first", (1,))
        words = NO_TUPLES + [(), (2,), (0, 2), (FAR,), (0,) * 5001]
        wrong = NO_RESTS[:-1] + [EVEN, (EVEN,), (rest, EVEN), (rest, rest), (rest, ("even", (0,))), rest]
        wrong += [value for value in NO_TUPLES if value != ()] + NO_INTEGERS[:10]
        wrong += [(rest, (side, word)) for side in ("first", "second") for word in words]
        wrong += [((side, (0,)),) for side in NO_INTEGERS + ["", "First", "third"]]
        wrong += [(rest, value) for value in NO_INTEGERS + NO_TUPLES + NO_RESTS] + [[rest], {rest: 1}, {rest}, "form"]
        for value in wrong:
            if value != ():
                self.assertEqual(fault_of(OPEN, value), "form")
        self.assertEqual(fault_of(NOTHING, (("first", (0,)),)), "form")


class TestRows(unittest.TestCase):

    def test_against_all_rows(self):
        many = 0
        for pair in small_pairs():
            longest = {0: 3, 1: 6, 2: 6, 3: 5}.get(pair.first.size, 3)
            plain = plain_alike(pair, longest)
            for length in range(longest + 1):
                rows = [row for row in plain if len(row) <= length]
                self.assertEqual(alike_rows(pair, length), rows)
                whole = [row for row in rows if not any(row[:k] in rows for k in range(1, len(row)))]
                self.assertEqual(prime_rows(pair, length), whole)
            many += len(plain) > 3
        self.assertGreater(many, 20)

    def test_part_three(self):
        for pair in even_pairs()[::3]:
            found = prime_rows(pair, 6)
            self.assertEqual(sorted(found), [row for row in primes(pair) if len(row) <= 6])
            self.assertEqual(found, sorted(found, key=lambda row: (len(row), row)))

    def test_alike_rows_are_made_of_prime_rows(self):
        for pair in small_pairs():
            whole = prime_rows(pair, 5)
            made = {()}
            for _ in range(5):
                made |= {row + part for row in made for part in whole if len(row + part) <= 5}
            self.assertEqual(alike_rows(pair, 5), sorted(made - {()}, key=lambda row: (len(row), row)))

    def test_lengths(self):
        for pair in (EXAMPLE, OPEN, CLOSED, SHORT):
            self.assertEqual((alike_rows(pair, 0), prime_rows(pair, 0)), ([], []))
        self.assertEqual(alike_rows(EXAMPLE, 60), [(0, 1) * many for many in range(1, 31)])
        self.assertEqual(prime_rows(EXAMPLE, 60), [(0, 1)])
        self.assertEqual((alike_rows(NOTHING, 60), prime_rows(NOTHING, 60)), ([], []))
        for pair in (EXAMPLE, NOTHING):
            for value in NO_INTEGERS + [-1, 61, 62, FAR, -FAR]:
                for function in (alike_rows, prime_rows):
                    with self.assertRaises(BadNumber):
                        function(pair, value)

    def test_two_thousand_rows_of_one_length(self):
        self.assertEqual((3 * 23 * 29, 10 * 10 * 20), (2001, 2000))
        for ends in (True, False):
            pair = levels(10, 10, 20, ends)
            rows = list(product(range(10), range(10, 20), range(20, 40))) if ends else []
            self.assertEqual((alike_rows(pair, 3), prime_rows(pair, 3)), (rows, rows))
            pair = levels(3, 23, 29, ends)
            self.assertEqual((alike_rows(pair, 2), prime_rows(pair, 2)), ([], []))
            for length in (3, 4, 60):
                for function in (alike_rows, prime_rows):
                    with self.assertRaises(TooLong):
                        function(pair, length)
        # Without an alike row the 2000 rows go on no further, else there are too many behind them.
        self.assertEqual(alike_rows(levels(10, 10, 20, False), 60), [])
        for function in (alike_rows, prime_rows):
            with self.assertRaises(TooLong):
                function(levels(10, 10, 20, True), 4)

    def test_alike_rows_count_for_prime_rows_too(self):
        pair = Pair(Book(1, [(0,)] * 44), Book(1, [(0,)] * 44))
        self.assertEqual(len(alike_rows(pair, 2)), 44 + 44 * 44)
        self.assertEqual(len(prime_rows(pair, 2)), 44)
        for function in (alike_rows, prime_rows):
            with self.assertRaises(TooLong):
                function(pair, 3)

    def test_rests_that_are_too_long(self):
        # Each number makes the first book ahead by so many letters more.
        for ahead, length, error in (100, 50, False), (100, 51, True), (84, 59, False), (84, 60, True), (83, 60, False):
            pair = ones([ahead + 1], [1])
            for function in (alike_rows, prime_rows):
                if error:
                    with self.assertRaises(TooLong):
                        function(pair, length)
                else:
                    self.assertEqual(function(pair, length), [])
        pair = ones([5000, 1], [1, 5000])
        self.assertEqual(alike_rows(pair, 1), [])
        with self.assertRaises(TooLong):
            alike_rows(pair, 2)


class TestErrors(unittest.TestCase):

    def test_unlike_books_come_first(self):
        for pair in NOT_EVEN:
            for value in [0, (), None, True, (0,), -1, EVEN, FAR, 5001]:
                for function in (rest_of, search, fault_of, alike_rows, prime_rows):
                    with self.assertRaises(BadBook):
                        function(pair, value)
                for rest in (EVEN, None, ("first", (0,)), 7):
                    with self.assertRaises(BadBook):
                        step(pair, rest, value)

    def test_arguments_are_not_changed(self):
        found = alike_rows(EXAMPLE, 6)
        found.clear()
        prime_rows(EXAMPLE, 6).append(1)
        self.assertEqual(alike_rows(EXAMPLE, 6), [(0, 1), (0, 1) * 2, (0, 1) * 3])
        self.assertEqual(prime_rows(EXAMPLE, 6), [(0, 1)])
        rests = search(CLOSED, 3)
        fault_of(EXAMPLE, (("first", (1,)),))
        self.assertEqual(search(CLOSED, 3), rests)
        self.assertEqual((EXAMPLE.first.words(), EXAMPLE.second.words()), ([(0, 1), (1,)], [(0,), (1, 1)]))


if __name__ == "__main__":
    unittest.main()
