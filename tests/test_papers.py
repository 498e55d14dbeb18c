"""[8.1] to [8.9], [8.11]: papers, which show the prime rows of a pair."""

import unittest
from random import Random

from samples import (
    EVEN_NOT_APART, EXAMPLE, FAR, NO_INTEGERS, NO_TUPLES, NOT_EVEN, NOTHING, alike_rows, beside, even_pairs, hill,
    hill_row, ladder, pairs_apart, shrinking, some_pairs, turning)

from alikeread.books import Book, Pair, same_pair
from alikeread.chain import alike_letters, chain
from alikeread.errors import BadBook, BadNumber, BadPaper, NotApart, TooLong
from alikeread.papers import alike_at, fault, pair_at, paper, shown
from alikeread.primes import primes
from alikeread.rests import walk

# The walks of the letters of this pair end in all ways that there are.
KINDS = Pair(
    Book(7, [(1,), (2, 2), (3, 1), (4,), (5,), (6, 6)]), Book(7, [(1,), (2,), (3, 2), (4, 0), (5, 6), (6, 6)]))
# The rest that comes again behind the letter 0 is not the first one, and it comes behind unlike lengths.
LATE = Pair(Book(3, [(0, 2), (1, 0, 1), (2, 2)]), Book(3, [(0,), (2, 1), (1, 1, 0)]))
TOO_LONG = [beside([turning(7), turning(11), turning(13)]), ladder(4998, (5, 5)), ladder(4998, (5,))]


def moments(pair, first, second):
    """Return the moments of two rows that go along, taken one by one, or None."""
    i = j = 1
    found = [(1, 1)]
    while True:
        texts = pair.first.read(first[:i]), pair.second.read(second[:j])
        common = min(len(texts[0]), len(texts[1]))
        if texts[0][:common] != texts[1][:common]:
            return None
        if len(texts[0]) == len(texts[1]):
            break
        if len(texts[0]) < len(texts[1]):
            if i == len(first):
                break
            i += 1
        else:
            if j == len(second):
                break
            j += 1
        found.append((i, j))
    return found if (i, j) == (len(first), len(second)) else None


def rest_at(pair, first, second):
    texts = pair.first.read(first), pair.second.read(second)
    common = min(len(texts[0]), len(texts[1]))
    return texts[0][common:], texts[1][common:]


def is_row(value, size):
    if type(value) is not tuple or not value:
        return False
    return all(type(number) is int and 0 <= number < size for number in value)


def plain_is_right(pair, letter, item):
    """Tell whether an item is right, as the document says it."""
    heads = [[word for word in book.words() if word[0] == letter] for book in (pair.first, pair.second)]
    if type(item) is not tuple or not item or type(item[0]) is not str:
        return False
    if item[0] == "missing":
        return len(item) == 1 and [] in heads
    if len(item) != {"block": 3, "stops": 3, "round": 5}.get(item[0]):
        return False
    first, second = item[1], item[2]
    if not is_row(first, pair.first.size) or not is_row(second, pair.second.size):
        return False
    words = pair.first.word(first[0]), pair.second.word(second[0])
    if words[0][0] != letter or words[1][0] != letter:
        return False
    along = moments(pair, first, second)
    common = min(len(words[0]), len(words[1]))
    if along is None:
        unlike = words[0][:common] != words[1][:common]
        return item[0] == "stops" and len(first) == 1 and len(second) == 1 and unlike
    texts = pair.first.read(first), pair.second.read(second)
    if item[0] == "block":
        return texts[0] == texts[1] and len(first) <= 5000 and len(second) <= 5000
    if texts[0] == texts[1]:
        return False
    if item[0] == "stops":
        if len(texts[0]) < len(texts[1]):
            further = [(first + (k,), second) for k in range(pair.first.size)]
        else:
            further = [(first, second + (k,)) for k in range(pair.second.size)]
        return all(moments(pair, one, other) is None for one, other in further)
    i, j = item[3], item[4]
    if type(i) is not int or type(j) is not int or (i, j) not in along[:-1]:
        return False
    return rest_at(pair, first[:i], second[:j]) == rest_at(pair, first, second)


def plain_fault(pair, value):
    """Look at a paper as the document says it."""
    if type(value) is not tuple or len(value) != 2 or type(value[0]) is not tuple or not value[0]:
        return -1, -1
    stages, home = value
    if type(home) is not int or not 0 <= home < len(stages):
        return -1, -1
    pairs = [pair]
    for s, stage in enumerate(stages):
        here = pairs[-1]
        if type(stage) is not tuple or len(stage) != here.letters:
            return s, -1
        for letter, item in enumerate(stage):
            if not plain_is_right(here, letter, item):
                return s, letter
        rows = [item[1:] for item in stage if item[0] == "block"]
        size = here.first.size
        pairs.append(Pair(Book(size, [one for one, _ in rows]), Book(size, [other for _, other in rows])))
    return None if same_pair(pairs[-1], pairs[home]) else (len(stages), -1)


def plain_item(pair, letter):
    """Return the item of a walk."""
    end, rests, first, second = walk(pair, letter)
    if end == "missing":
        return (end,)
    if end != "round":
        return end, first, second
    along = moments(pair, first, second)
    return (end, first, second) + along[rests.index(rests[-1])]


def changed_items(random, pair, item):
    """Give items that are made of one by changing one thing."""
    yield from [item[1:], item + ((0,),), item + (1,), list(item), (), None, item[0]]
    for kind in ("missing", "block", "stops", "round", "Block", "", None, 0, b"block"):
        yield (kind,) + item[1:]
        yield (kind,)
    for place in (1, 2):
        if len(item) > place:
            row = item[place]
            for value in [row[1:], row[:-1], row + row[-1:], row + (0,), row[::-1], list(row), (), None, row + (True,)]:
                yield item[:place] + (value,) + item[place + 1:]
            for k in range(min(len(row), 3)):
                for number in [-1, pair.first.size, random.randrange(pair.first.size), None, True, (), FAR]:
                    yield item[:place] + (row[:k] + (number,) + row[k + 1:],) + item[place + 1:]
            yield item[:1] + (item[2], item[1]) + item[3:]
    if len(item) == 5:
        for i, j in (0, 0), (1, 1), (0, 1), (2, 1), (1, 2), (2, 2), (3, 2), (FAR, 1), (1, -1):
            yield item[:3] + (i, j)
        for value in NO_INTEGERS[:12] + [item[3] - 1, item[3] + 1, item[4] + 1, len(item[1]), -FAR]:
            yield item[:3] + (value, item[4])
            yield item[:3] + (item[3], value)
        yield item[:3] + (len(item[1]), len(item[2]))


def some_papers():
    """Return pairs with walks of all kinds and with chains that come home early and late."""
    pairs = [KINDS, LATE, LATE.swapped(), EXAMPLE, NOTHING, shrinking(4), turning(3), hill([2], [2])]
    return pairs + [beside([EXAMPLE, turning(2)])] + even_pairs()[::9] + list(some_pairs(31, 60, 4, 4, True))


class TestPaper(unittest.TestCase):

    def test_against_the_chain_and_the_walks(self):
        ends = set()
        for pair in even_pairs() + some_papers():
            pairs, home = chain(pair)
            stages = tuple(tuple(plain_item(one, letter) for letter in range(one.letters)) for one in pairs)
            found = paper(pair)
            self.assertEqual(found, (stages, home))
            self.assertIsNone(fault(pair, found))
            self.assertIsNone(plain_fault(pair, found))
            for k, one in enumerate(pairs):
                self.assertTrue(same_pair(pair_at(pair, found, k), one))
                self.assertEqual(alike_at(pair, found, k), alike_letters(one))
            self.assertEqual(shown(pair, found), primes(pair))
            ends |= {item[0] for stage in stages for item in stage}
        self.assertEqual(ends, {"missing", "block", "stops", "round"})

    def test_example(self):
        found = paper(EXAMPLE)
        self.assertEqual(found[0][0], (("block", (0, 1), (0, 1)), ("block", (1, 1), (1,))))
        self.assertEqual((len(found[0]), found[1]), (4, 2))
        self.assertEqual((shown(EXAMPLE, found), alike_at(EXAMPLE, found, 1)), ([(0, 1)], (0,)))

    def test_all_kinds(self):
        self.assertEqual(paper(KINDS)[0][0], (
            ("missing",), ("block", (0,), (0,)), ("block", (1,), (1, 1)), ("stops", (2,), (2,)),
            ("stops", (3,), (3,)), ("round", (4, 5), (4, 5), 1, 1), ("block", (5,), (5,))))
        self.assertEqual([walk(KINDS, letter)[1] for letter in (3, 4)], [(), (("second", (0,)),)])
        self.assertEqual(paper(LATE)[0][0][0], ("round", (0, 1, 1), (0, 1, 0, 2), 2, 3))
        self.assertEqual(paper(LATE.swapped())[0][0][0], ("round", (0, 1, 0, 2), (0, 1, 1), 3, 2))

    def test_nothing(self):
        self.assertEqual(paper(NOTHING), (((),), 0))
        self.assertIsNone(fault(NOTHING, (((),), 0)))
        for stages, home in (((), ()), 1), (((), ()), 0), (((),) * 9, 7):
            self.assertIsNone(fault(NOTHING, (stages, home)))
        self.assertEqual(shown(NOTHING, (((),) * 9, 7)), [])

    def test_long_chains(self):
        pair = beside([turning(2), turning(5), turning(9), turning(11), shrinking(20)])
        found = paper(pair)
        self.assertEqual((len(found[0]), found[1]), (2000, 20))
        self.assertIsNone(fault(pair, found))
        self.assertEqual(shown(pair, found), [])
        self.assertEqual(fault(pair, (found[0], 21)), (2000, -1))
        self.assertEqual(fault(pair, (found[0][:1999], 20)), (1999, -1))

    def test_errors(self):
        for pair in NOT_EVEN:
            with self.assertRaises(BadBook):
                paper(pair)
        for pair in EVEN_NOT_APART:
            with self.assertRaises(NotApart):
                paper(pair)
        for pair in TOO_LONG:
            with self.assertRaises(TooLong):
                paper(pair)


class TestFault(unittest.TestCase):

    def test_one_thing_changed(self):
        random = Random(1)
        kinds = {}
        for pair in some_papers():
            stages, home = paper(pair)
            for s in range(min(len(stages), 3)):
                for letter, item in enumerate(stages[s]):
                    if random.random() < 0.6 and kinds.get(item[0], 0) > 40:
                        continue
                    kinds[item[0]] = kinds.get(item[0], 0) + 1
                    for changed in changed_items(random, chain(pair)[0][s], item):
                        stage = stages[s][:letter] + (changed,) + stages[s][letter + 1:]
                        value = (stages[:s] + (stage,) + stages[s + 1:], home)
                        self.assertEqual(fault(pair, value), plain_fault(pair, value), (s, letter, changed))
        self.assertTrue(all(many > 20 for many in kinds.values()), kinds)
        self.assertEqual(len(kinds), 4)

    def test_all_short_items(self):
        rows = [(0,), (1,), (0, 0), (0, 1), (1, 0), (1, 1), (0, 1, 1), (1, 1, 0)]
        right = {}
        for pair in list(pairs_apart(2, 3))[::37] + [EXAMPLE, Pair(Book(2, [(0,), (1, 1)]), Book(2, [(0, 1), (1, 1)]))]:
            if not pair.is_even() or pair.first.size < 2:
                continue
            stages, home = paper(pair)
            for first in rows:
                for second in rows:
                    ends = [("block", first, second), ("stops", first, second)]
                    ends += [("round", first, second, i, j) for i in range(3) for j in range(3)]
                    for item in ends:
                        value = ((((item,) + stages[0][1:]),) + stages[1:], home)
                        plain = plain_fault(pair, value)
                        self.assertEqual(fault(pair, value), plain)
                        right[item[0]] = right.get(item[0], 0) + (plain is None)
        self.assertTrue(all(right.values()))

    def test_stages_changed(self):
        for pair in some_papers():
            stages, home = paper(pair)
            values = [(stages[:k] + stages[k + 1:], home) for k in range(min(len(stages), 4))]
            values += [(stages[:k + 1] + stages[k:], home) for k in range(min(len(stages), 4))]
            values += [(stages, other) for other in range(-1, min(len(stages), 4) + 1)]
            for s, stage in list(enumerate(stages))[:3]:
                for changed in stage[1:], stage[:-1], stage + (("missing",),), list(stage), None, (), stage[::-1], "":
                    values.append((stages[:s] + (changed,) + stages[s + 1:], home))
            for value in values:
                self.assertEqual(fault(pair, value), plain_fault(pair, value))

    def test_the_first_fault_is_told(self):
        stages, home = paper(EXAMPLE)
        wrong = ("missing",)
        self.assertEqual(fault(EXAMPLE, (((stages[0][0], wrong), ()), 0)), (0, 1))
        self.assertEqual(fault(EXAMPLE, (((wrong, wrong), ()), 0)), (0, 0))
        self.assertEqual(fault(EXAMPLE, ((stages[0], (wrong, wrong, wrong)), 0)), (1, -1))
        self.assertEqual(fault(EXAMPLE, ((stages[0], (wrong, wrong)), 0)), (1, 0))
        self.assertEqual(fault(EXAMPLE, (stages[:1], 0)), (1, -1))
        self.assertEqual(fault(EXAMPLE, (stages, 1)), (4, -1))
        self.assertEqual(fault(EXAMPLE, ((wrong,), 4)), (-1, -1))

    def test_values_of_any_kind(self):
        stages, home = paper(EXAMPLE)
        wrong = [value for value in NO_TUPLES] + NO_INTEGERS + [
            (), (stages,), (stages, home, home), [stages, home], (list(stages), home), ((), 0), (stages, 4),
            (home, stages), (stages, -1), (stages, FAR), ("block", 0), (None, None), ({0: 0}, 0), (stages, home, None)]
        wrong += [(stages, value) for value in NO_INTEGERS]
        for value in wrong:
            self.assertEqual(fault(EXAMPLE, value), (-1, -1))
        for value in NO_INTEGERS + NO_TUPLES + [FAR, "missing", ("missing",), [("missing",), ("missing",)]]:
            if value != ((), ()) and not (isinstance(value, tuple) and len(value) == 2):
                self.assertEqual(fault(EXAMPLE, ((value,) + stages[1:], home)), (0, -1))
            self.assertEqual(fault(EXAMPLE, (((value, stages[0][1]),) + stages[1:], home)), (0, 0))
            self.assertEqual(fault(EXAMPLE, ((stages[0], (stages[1][0], value)), 0)), (1, 1))

    def test_blocks_of_five_thousand_numbers(self):
        pair = ladder(4997, (5,))
        found = paper(pair)
        self.assertEqual([len(row) for row in found[0][0][0][1:]], [5000, 5000])
        self.assertIsNone(fault(pair, found))
        for pair in (ladder(4998, (5,)), ladder(4997, (5, 5)), ladder(4997, (5, 5)).swapped()):
            item = walk(pair, 0)
            self.assertEqual(item[0], "block")
            self.assertEqual(max(len(item[2]), len(item[3])), 5001)
            rest = tuple(("missing",) for _ in range(6))
            self.assertEqual(fault(pair, (((("block",) + item[2:],) + rest,), 0)), (0, 0))

    def test_walks_that_are_too_long_may_stand_in_papers(self):
        # The walk has more than 10000 rests, and stops; a paper may tell it all the same.
        pair = ladder(4998, (5, 5, 4))
        with self.assertRaises(TooLong):
            paper(pair)
        first, second = (0,) + (3,) * 4998 + (4,), (0,) + (1,) * 4998 + (2, 4, 4)
        stage = [("stops", first, second)] + [plain_item(pair, letter) for letter in range(1, 7)]
        below = Pair(Book(6, [(1,), (3,), (5,)]), Book(6, [(1,), (3,), (4,)]))
        stages, home = paper(below)
        self.assertIsNone(fault(pair, ((tuple(stage),) + stages, home + 1)))
        for changed in ("stops", first, second[:-1]), ("stops", first[:-1], second), ("block", first, second):
            stage[0] = changed
            self.assertEqual(fault(pair, ((tuple(stage),) + stages, home + 1)), (0, 0))

    def test_errors_come_first(self):
        for pairs, error in (NOT_EVEN, BadBook), (EVEN_NOT_APART, NotApart):
            for pair in pairs:
                for value in None, (), (((),), 0), True, FAR:
                    with self.assertRaises(error):
                        fault(pair, value)
                    with self.assertRaises(error):
                        shown(pair, value)
                    for k in (0, None, FAR):
                        with self.assertRaises(error):
                            pair_at(pair, value, k)
                        with self.assertRaises(error):
                            alike_at(pair, value, k)


class TestOtherPapers(unittest.TestCase):

    def test_around_the_round(self):
        for pair in some_papers():
            stages, home = paper(pair)
            rounds = stages[home:]
            for more in range(1, 2 * len(rounds) + 2):
                longer = stages + (rounds * 3)[:more]
                for at in range(len(longer)):
                    value = (longer, at)
                    plain = at >= home and (len(longer) - at) % len(rounds) == 0
                    self.assertEqual(fault(pair, value), None if plain else (len(longer), -1))
                    if plain:
                        self.assertEqual(shown(pair, value), primes(pair))
                        self.assertTrue(same_pair(pair_at(pair, value, len(longer) - 1), chain(pair)[0][(
                            len(longer) - 1 - home) % len(rounds) + home]))

    def test_a_round_that_goes_around_more_than_once(self):
        pair = Pair(Book(2, [(0,), (1, 1)]), Book(2, [(0, 1), (1, 1)]))
        stages, home = paper(pair)
        self.assertEqual(stages[0][0], ("round", (0, 1), (0, 1), 1, 1))
        for many in range(2, 6):
            row = (0,) + (1,) * many
            for i in range(1, many + 2):
                for j in range(1, many + 2):
                    item = ("round", row, row, i, j)
                    value = ((((item,) + stages[0][1:]),) + stages[1:], home)
                    self.assertEqual(fault(pair, value), None if i == j <= many else (0, 0))
                    if i == j <= many:
                        self.assertEqual(shown(pair, value), primes(pair))
            # One number more in the one row than in the other one is another rest.
            for i, j in (1, 1), (2, 1), (1, 2), (2, 2):
                item = ("round", row, row + (1,), i, j)
                value = ((((item,) + stages[0][1:]),) + stages[1:], home)
                self.assertEqual(fault(pair, value), plain_fault(pair, value))


class TestAt(unittest.TestCase):

    def test_papers_that_are_not_right(self):
        stages, home = paper(EXAMPLE)
        for value in [None, (), (stages, 1), (stages[:3], 2), (stages, FAR), ((stages[0],), 0), [stages, home]]:
            with self.assertRaises(BadPaper):
                shown(EXAMPLE, value)
            for k in (0, 1, 4, -1, None, True, FAR):
                with self.assertRaises(BadPaper):
                    pair_at(EXAMPLE, value, k)
                with self.assertRaises(BadPaper):
                    alike_at(EXAMPLE, value, k)

    def test_values_that_are_no_stages(self):
        found = paper(EXAMPLE)
        for k in NO_INTEGERS + [-1, 4, 5, FAR, -FAR]:
            with self.assertRaises(BadNumber):
                pair_at(EXAMPLE, found, k)
            with self.assertRaises(BadNumber):
                alike_at(EXAMPLE, found, k)
        self.assertEqual([alike_at(EXAMPLE, found, k) for k in range(4)], [(), (0,), (0,), (0,)])

    def test_prime_rows_of_a_thousand_numbers(self):
        pair = hill([998], [998])
        self.assertEqual(shown(pair, paper(pair)), [hill_row([998], [998])])
        for pair in (hill([999], [999]), hill([60] * 10, [60] * 10), beside([EXAMPLE, hill([999], [999])])):
            found = paper(pair)
            self.assertIsNone(fault(pair, found))
            with self.assertRaises(TooLong):
                shown(pair, found)
            self.assertEqual(len(pair_at(pair, found, 0).first.words()), pair.first.size)

    def test_several_prime_rows_in_order(self):
        pair = beside([hill([2], [2]), EXAMPLE, hill([3], [3]), EXAMPLE])
        self.assertEqual(shown(pair, paper(pair)), primes(pair))
        self.assertEqual([row[0] for row in primes(pair)], [0, 3, 5, 8])

    def test_what_holds(self):
        for pair in even_pairs()[::15] + [KINDS, EXAMPLE]:
            found = paper(pair)
            many = [len(alike_at(pair, found, k)) for k in range(len(found[0]))]
            self.assertEqual(many, sorted(many))
            self.assertEqual(len(set(many[found[1]:])), 1)
            for row in alike_rows(pair, 4):
                below = pair_at(pair, found, min(1, len(found[0]) - 1))
                if len(found[0]) > 1:
                    under = below.first.row_of(row)
                    self.assertEqual(below.first.read(under), below.second.read(under))


class TestNew(unittest.TestCase):

    def test_nothing_is_changed(self):
        words = EXAMPLE.first.words(), EXAMPLE.second.words()
        found = paper(EXAMPLE)
        shown(EXAMPLE, found).clear()
        pair_at(EXAMPLE, found, 0).first = None
        pair_at(EXAMPLE, found, 1).first.words().clear()
        self.assertEqual((EXAMPLE.first.words(), EXAMPLE.second.words()), words)
        self.assertEqual(shown(EXAMPLE, found), [(0, 1)])
        self.assertEqual(paper(EXAMPLE), found)


if __name__ == "__main__":
    unittest.main()
