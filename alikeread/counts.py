"""How many alike rows there are, and the alike rows in order.

Prime rows begin with different numbers, so alike rows are counted and put in
order as common texts are by their blocks. Prime rows that are longer than a row
that is asked for cannot stand in it.
"""

from alikeread.errors import BadNumber, BadRow, TooLong
from alikeread.far import Far
from alikeread.kinds import are_below, is_below, is_count
from alikeread.pieces import LONGEST_COUNTED, many_by_length, number_before, pieces_with_number, ways_up_to
from alikeread.primes import LONGEST_MADE, joined, made_of, short_primes

MOST_PARTS = 10
MOST_LENGTHS = 8


def prime_lengths(pair):
    """Return the lengths of the prime rows, each with the number of prime rows of this length."""
    return many_by_length(_lengths(Far(pair)))


def counts(pair, most):
    """Return the numbers of alike rows of the lengths 0, 1 and so on up to `most`."""
    far = Far(pair)
    if not is_below(most, LONGEST_COUNTED + 1):
        raise BadNumber("this is not a length up to the longest one")
    return [0] + ways_up_to(_lengths(far), most)[1:]


def count_at(pair, length):
    """Return the number of alike rows of one length."""
    far = Far(pair)
    if not is_count(length):
        raise BadNumber("this is not an integer from 0 on")
    if far.count == 0 or length == 0:
        return 0
    if length <= LONGEST_COUNTED:
        return ways_up_to(_lengths(far), length)[length]
    parts = many_by_length(_lengths(far))
    if length > MOST_PARTS * parts[0][0]:
        raise TooLong("the length is too great")
    if len(parts) > MOST_LENGTHS:
        raise TooLong("the prime rows have too many different lengths")
    return _count_of_few(parts, length)


def least(pair):
    """Return the first alike row, or None."""
    far = Far(pair)
    if far.count == 0:
        return None
    lengths = _lengths(far)
    shortest = min(lengths)
    if shortest > LONGEST_MADE:
        raise TooLong("the first alike row has too many numbers")
    return far.row(lengths.index(shortest))


def row_at(pair, number):
    """Return the alike row with a number, or None if there are no alike rows."""
    far = Far(pair)
    if not is_count(number):
        raise BadNumber("this is not an integer from 0 on")
    chosen = pieces_with_number(_lengths(far), number)
    if chosen is not None:
        return joined(far, chosen)
    if far.count > 0:
        raise TooLong("the row has too many numbers")
    return None


def number_of(pair, row):
    """Return how many alike rows come before a row, alike itself or not."""
    far = Far(pair)
    _check_row(pair, row)
    pieces = list(short_primes(far, len(row)).values())
    return number_before(pieces, _ways(pieces, len(row)), row)


def between(pair, first, second):
    """Return how many alike rows stand between two rows, both of them counted in."""
    far = Far(pair)
    _check_row(pair, first)
    _check_row(pair, second)
    if (len(second), second) < (len(first), first):
        return 0
    rows = short_primes(far, len(second))
    pieces = list(rows.values())
    ways = _ways(pieces, len(second))
    last = 0 if made_of(rows, second) is None else 1
    return number_before(pieces, ways, second) + last - number_before(pieces, ways, first)


def _lengths(far):
    """Return the lengths of the prime rows in their order."""
    return [far.length(k) for k in range(far.count)]


def _ways(pieces, most):
    """Return in how many ways 0, 1 and so on up to `most` numbers are made of pieces."""
    return ways_up_to([len(piece) for piece in pieces], most)


def _count_of_few(parts, length):
    """Return the number of alike rows of a length, each of which is made of few prime rows."""
    number = 0
    # The ways to reach each length by one prime row more at a time. Their lengths
    # may be far too great to go through all the lengths below this one.
    ways_by_length = {0: 1}
    for _ in range(MOST_PARTS):
        further = {}
        for reached, ways in ways_by_length.items():
            for part, many in parts:
                if reached + part <= length:
                    further[reached + part] = further.get(reached + part, 0) + ways * many
        number = number + further.get(length, 0)
        ways_by_length = further
    return number


def _check_row(pair, value):
    """See to it that a value of any kind is a row of the books that is not too long."""
    if not are_below(value, pair.first.size):
        raise BadRow("this is not a row of the books")
    if len(value) > LONGEST_COUNTED:
        raise TooLong("the row has too many numbers")
