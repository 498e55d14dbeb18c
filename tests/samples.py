"""Values that several test files take."""

from itertools import product
from random import Random

from alikeread.books import Book, Pair
from alikeread.tape import Tape


def _nested(depth):
    value = ()
    for _ in range(depth):
        value = (value,)
    return value


FAR = 10 ** 6000

# None of these is an integer, though Python takes some of them for one.
NO_INTEGERS = [
    None, True, False, 0.0, 1.0, float("nan"), float("inf"), 1j, "", "0", "1", "book", b"", b"0",
    [], [0], (), (0,), (1,), {}, {0: 0}, set(), {0}, frozenset({0}), range(1), object(), int, len,
    _nested(3), _nested(3000), [[[]]], ValueError("0"),
]

# None of these is a tuple of integers from 0 on.
NO_TUPLES = [
    None, True, False, 0, 1, -1, FAR, -FAR, 1.0, "", "0", "01", b"", b"\0", [], [0], [0, 0], [(0,)],
    {}, {0: 0}, set(), {0}, range(0), range(1), object(), tuple, iter(()), iter((0,)),
    (True,), (False,), (0, True), (None,), (0, None), (0.0,), ("0",), ("",), (b"0",), ((),), ((0,),),
    (0, (0,)), ([],), ([0],), (0, [0]), ({},), ({0},), (-1,), (0, -1), (-FAR,), (0, -FAR),
    (object(),), _nested(3), _nested(3000), (0, _nested(3000)), (0, [[(0,)]]),
]


def tuples_below(end, most, least=0):
    """Give all tuples of integers below `end` with `least` to `most` items."""
    for length in range(least, most + 1):
        yield from product(range(end), repeat=length)


def small_books(letters, size, longest):
    """Give all books with so many letters and at most so many words, which are so long at most."""
    words = list(tuples_below(letters, longest, 1))
    for many in range(size + 1):
        for chosen in product(words, repeat=many):
            yield Book(letters, list(chosen))


def books_apart(letters, longest):
    """Give all books that start apart, whose words have at most so many letters."""
    words = list(tuples_below(letters, longest, 1))
    for size in range(letters + 1):
        for chosen in product(words, repeat=size):
            if len({word[0] for word in chosen}) == size:
                yield Book(letters, list(chosen))


def pairs_apart(letters, longest):
    """Give all pairs of such books, also those with unlike numbers of words."""
    books = list(books_apart(letters, longest))
    for first, second in product(books, repeat=2):
        yield Pair(first, second)


def even_pairs():
    """Return pairs with equally many words, small ones and some others."""
    pairs = list(pairs_apart(1, 3)) + list(pairs_apart(2, 2)) + list(pairs_apart(2, 3))[::17]
    return [pair for pair in pairs if pair.is_even()] + list(some_pairs(11, 300, 5, 4, True))


def some_book(random, letters, size, longest):
    """Return a book that starts apart, mostly with short words."""
    heads = random.sample(range(letters), size)
    lengths = [random.choice([0, 0, 0, 1, 1, 2, random.randrange(longest)]) for _ in heads]
    return Book(letters, [
        (head,) + tuple(random.randrange(letters) for _ in range(length)) for head, length in zip(heads, lengths)])


def some_pairs(seed, many, letters, longest=4, even=False):
    """Give so many pairs of books that start apart, over at most so many letters."""
    random = Random(seed)
    for _ in range(many):
        base = random.randint(1, letters)
        size = random.randint(max(0, base - 2), base)
        other = size if even else random.randint(max(0, base - 2), base)
        yield Pair(some_book(random, base, size, longest), some_book(random, base, other, longest))


def some_lists(seed, many, count):
    """Give lists of so many books that start apart, most of which read some row alike."""
    random = Random(seed)
    for _ in range(many):
        letters = random.randint(1, 4)
        size = random.randint(1, letters)
        books = [some_book(random, letters, size, 3) for _ in range(count)]
        # Books that share words have more alike rows.
        words = [book.words() for book in books]
        for number in range(size):
            if random.random() < 0.5:
                for one in words[1:]:
                    if words[0][number][0] not in [word[0] for word in one[:number] + one[number + 1:]]:
                        one[number] = words[0][number]
        yield [Book(letters, one) for one in words]


def beside(parts):
    """Return the pair of several pairs side by side, over letters and words that go on in order."""
    letters = sum(part.letters for part in parts)
    words = [[], []]
    ahead = 0
    for part in parts:
        for found, book in zip(words, (part.first, part.second)):
            found.extend(tuple(letter + ahead for letter in word) for word in book.words())
        ahead += part.letters
    return Pair(Book(letters, words[0]), Book(letters, words[1]))


def renumbered(pair, letters, numbers):
    """Return a pair with other letters and other numbers of words: those that two lists tell for the old ones."""
    books = []
    for book in (pair.first, pair.second):
        words = [None] * book.size
        for number, word in zip(numbers, book.words()):
            words[number] = tuple(letters[letter] for letter in word)
        books.append(Book(pair.letters, words))
    return Pair(books[0], books[1])


def turning(size):
    """Return a pair whose chain comes home behind twice as many pairs as it has words."""
    second = [((letter + 1) % size,) for letter in range(size)]
    second[0] += (0,)
    return Pair(Book(size, [(letter,) for letter in range(size)]), Book(size, second))


def circle(size):
    """Return a pair like the one above, which has its longer word in the first book."""
    first = [(letter,) for letter in range(size)]
    first[0] = (0, 1)
    return Pair(Book(size, first), Book(size, [((letter + 1) % size,) for letter in range(size)]))


def staged(many, ones):
    """Return a pair whose walk of letter 0 goes through so many stages.

    In the stage k a word has so many letters 2k, and the other book has the word (2k,);
    the letter ahead of these joins the stage before, and that behind them the next one.
    """
    words = [], []
    for k in range(many):
        ahead = (2 * k - 1,) if k > 0 else ()
        behind = (2 * k + 1,) if k < many - 1 else ()
        words[k % 2].append(ahead + (2 * k,) * ones + behind)
        words[1 - k % 2].append((2 * k,))
    return Pair(Book(2 * many, words[0]), Book(2 * many, words[1]))


def shrinking(size):
    """Return a pair each lesser pair of which has one word less, until none is left."""
    return Pair(
        Book(size, [(letter,) for letter in range(size - 1)]), Book(size, [(letter,) for letter in range(1, size)]))


def ladder(ones, ending):
    """Return a pair with 6 words, where the walk of letter 0 takes a word for almost each letter.

    Behind so many letters 1, and 4999 other rests, it comes to the letters of `ending`,
    of which the first book is ahead; the second one has a word (5,) and none for 4.
    """
    first = [(0,) + (1,) * ones + (2,), (1,), (2,), (3,), (4,) + ending, (5,)]
    second = [(0,), (1,), (2,) + (3,) * 4998 + (4,), (3,), (5,), (6,)]
    return Pair(Book(7, first), Book(7, second))


def hill(ups, downs):
    """Return a pair whose one prime row has the number 0 once, and each further number some times as often.

    For a number in the first half it is so many times as many as `ups` tells, and in
    the second half so many times less as `downs` tells, down to one at the end.
    """
    last = len(ups) + len(downs)
    first = [(0,) + (1,) * ups[0]] + [(k + 1,) * (ups[k] if k < len(ups) else 1) for k in range(1, last)]
    second = [(0,)] + [(k,) * (1 if k <= len(ups) else downs[k - len(ups) - 1]) for k in range(1, last)]
    return Pair(
        Book(last + 2, first + [(last + 1,)]), Book(last + 2, second + [(last,) * downs[-1] + (last + 1,)]))


def hill_row(ups, downs):
    """Return the prime row of such a pair."""
    many = [1]
    for times in ups:
        many.append(many[-1] * times)
    for times in downs:
        many.append(many[-1] // times)
    return tuple(number for number, times in enumerate(many) for _ in range(times))


def cut(book, parts, shift):
    """Return the book with more letters for each letter, and each word cut into so many parts as a list tells.

    The cuts follow each other in the first letter of a word, and `shift`, 0 or 1, moves them on.
    """
    times = max(parts) + 1
    words = []
    for word, many in zip(book.words(), parts):
        longer = tuple(times * letter + k for letter in word for k in range(times))
        places = [0] + [k + shift for k in range(1, many)] + [len(longer)]
        words.extend(longer[start:end] for start, end in zip(places, places[1:]))
    return Book(times * book.letters, words)


def cut_books(pair, parts):
    """Return three books, and the prime rows of the first two: the parts of one word each.

    All three books read alike the rows that a pair reads alike, with the parts in the place of words.
    """
    ends = [sum(parts[:k + 1]) for k in range(len(parts))]
    rows = [tuple(range(end - many, end)) for end, many in zip(ends, parts)]
    return [cut(pair.first, parts, 0), cut(pair.first, parts, 1), cut(pair.second, parts, 0)], rows


def alike_rows(pair, most):
    """Return the alike rows with at most so many numbers, in order, by trying all rows."""
    rows = tuples_below(pair.first.size, most, 1)
    return [row for row in rows if pair.first.read(row) == pair.second.read(row)]


def some_tape(random, marks, states):
    """Return a tape machine, which halts in some of its rows."""
    rows = [
        (random.randrange(marks), random.choice([-1, 1]), random.randrange(states + 1)) for _ in range(marks * states)]
    return Tape(marks, states, rows)


def plain_run(machine, word, most):
    """Follow a tape machine on a dict of cells, and return its configurations."""
    cells = dict(enumerate(word))
    state = place = 0
    found = []
    while True:
        end = max([cell + 1 for cell, mark in cells.items() if mark != 0], default=0)
        found.append((state, tuple(cells.get(cell, 0) for cell in range(end)), place))
        if state == machine.states or len(found) > most:
            return found
        cells[place], move, state = machine.table()[state * machine.marks + cells.get(place, 0)]
        place = max(0, place + move)


# The pair of the examples of the document.
EXAMPLE = Pair(Book(2, [(0, 1), (1,)]), Book(2, [(0,), (1, 1)]))
# The tape machine of the example: to the right over ones, and a one behind them.
ONES = Tape(2, 1, [(1, 1, 1), (1, 1, 0)])
# A pair without letters, and so without words.
NOTHING = Pair(Book(0, []), Book(0, []))
# Pairs in which the one book, the other one or both do not start apart; they are not even either.
NOT_APART = [
    Pair(Book(2, [(0,), (0, 1)]), Book(2, [(1,)])),
    Pair(Book(2, [(1,)]), Book(2, [(0,), (0, 1)])),
    Pair(Book(2, [(0,), (0, 1)]), Book(2, [(1,), (1,), (0,)])),
]
# Pairs with unlike numbers of words; in the last two a book does not start apart, either.
NOT_EVEN = [
    Pair(Book(2, [(0,)]), Book(2, [(0,), (1,)])), Pair(Book(2, [(0,), (1,)]), Book(2, [])),
    Pair(Book(2, [(0,), (0,)]), Book(2, [(1,)])), Pair(Book(2, [(1,)]), Book(2, [(0,), (0,)])),
]
# Pairs with equally many words in which the one book, the other one or both do not start apart.
EVEN_NOT_APART = [
    Pair(Book(2, [(0,), (0, 1)]), Book(2, [(1,), (0,)])),
    Pair(Book(2, [(1,), (0,)]), Book(2, [(0,), (0, 1)])),
    Pair(Book(2, [(0,), (0,)]), Book(2, [(1,), (1,)])),
]
