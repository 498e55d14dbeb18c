"""Prime rows, of which all alike rows are made."""

from alikeread.errors import BadBook, BadRow, TooLong
from alikeread.far import Far
from alikeread.kinds import are_below

LONGEST_PRIME = 1000
LONGEST_MADE = 10000


def primes(pair):
    """Return the prime rows in ascending order."""
    far = Far(pair)
    found = short_primes(far, LONGEST_PRIME)
    if len(found) < far.count:
        raise TooLong("a prime row has too many numbers")
    return [found[k] for k in range(far.count)]


def is_alike(pair, row):
    """Tell whether both books, which need not start apart, read the same text from a row."""
    if not pair.is_even():
        raise BadBook("the books have not equally many words")
    texts = pair.first.read(row), pair.second.read(row)
    return len(row) > 0 and texts[0] == texts[1]


def in_primes(pair, row):
    """Return the numbers of the prime rows of which a row is made, or None."""
    far = Far(pair)
    if not are_below(row, pair.first.size):
        raise BadRow("this is not a row of the books")
    return made_of(short_primes(far, len(row)), row)


def row_made(pair, numbers):
    """Return the row that is made of the prime rows with some numbers."""
    far = Far(pair)
    if not are_below(numbers, far.count):
        raise BadRow("these are not numbers of prime rows")
    if sum([far.length(k) for k in numbers]) > LONGEST_MADE:
        raise TooLong("the row has too many numbers")
    return joined(far, numbers)


def joined(far, numbers):
    """Return the prime rows with some numbers, put one behind the other."""
    rows = {k: far.row(k) for k in sorted(set(numbers))}
    return tuple([number for k in numbers for number in rows[k]])


def short_primes(far, most):
    """Return the prime rows with at most so many numbers, by their numbers."""
    return {k: far.row(k) for k in range(far.count) if far.length(k) <= most}


def made_of(rows, row):
    """Return the numbers of those rows of which a row is made, or None; they begin with different numbers."""
    k_by_head = {rows[k][0]: k for k in rows}
    numbers = []
    place = 0
    while place < len(row):
        k = k_by_head.get(row[place])
        if k is None or row[place:place + len(rows[k])] != rows[k]:
            return None
        numbers.append(k)
        place += len(rows[k])
    return tuple(numbers) if len(numbers) > 0 else None
