"""Values that several test files take."""

from itertools import product

from alikeread.books import Book


def _nested(depth):
    value = ()
    for _ in range(depth):
        value = (value,)
    return value


FAR = 10 ** 6000

# None of these is an integer, though Python takes some of them for one.
NO_INTEGERS = [
    None, True, False, 0.0, 1.0, float("nan"), float("inf"), 1j, "", "0", "1", "book", b"", b"0",
    [], [0], (), (0,), (1,), {}, {0: 0}, set(), {0}, frozenset({0}), range(1), object(), int, len,
    _nested(3), _nested(3000), [[[]]], ValueError("0"),
]

# None of these is a tuple of integers from 0 on.
NO_TUPLES = [
    None, True, False, 0, 1, -1, FAR, -FAR, 1.0, "", "0", "01", b"", b"\0", [], [0], [0, 0], [(0,)],
    {}, {0: 0}, set(), {0}, range(0), range(1), object(), tuple, iter(()), iter((0,)),
    (True,), (False,), (0, True), (None,), (0, None), (0.0,), ("0",), ("",), (b"0",), ((),), ((0,),),
    (0, (0,)), ([],), ([0],), (0, [0]), ({},), ({0},), (-1,), (0, -1), (-FAR,), (0, -FAR),
    (object(),), _nested(3), _nested(3000), (0, _nested(3000)), (0, [[(0,)]]),
]


def tuples_below(end, most, least=0):
    """Give all tuples of integers below `end` with `least` to `most` items."""
    for length in range(least, most + 1):
        yield from product(range(end), repeat=length)


def small_books(letters, size, longest):
    """Give all books with so many letters and at most so many words, which are so long at most."""
    words = list(tuples_below(letters, longest, 1))
    for many in range(size + 1):
        for chosen in product(words, repeat=many):
            yield Book(letters, list(chosen))
