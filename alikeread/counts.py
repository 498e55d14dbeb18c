"""How many alike rows there are, and the alike rows in order.

Prime rows begin with different numbers, so alike rows are counted and put in
order as common texts are by their blocks. Prime rows that are longer than a row
that is asked for cannot stand in it.
"""

from alikeread.blocks import LONGEST_COUNTED, counts_up_to, number_before, row_with_number
from alikeread.errors import BadNumber, BadRow, TooLong
from alikeread.far import Far
from alikeread.kinds import are_below, is_below, is_count
from alikeread.primes import LONGEST_MADE, made_of, short_primes

MOST_PARTS = 10
MOST_LENGTHS = 8


def prime_lengths(pair):
    """Return the lengths of the prime rows, each with the number of prime rows of this length."""
    return _many_by_length(Far(pair))


def counts(pair, most):
    """Return the numbers of alike rows of the lengths 0, 1 and so on up to `most`."""
    far = Far(pair)
    if not is_below(most, LONGEST_COUNTED + 1):
        raise BadNumber("this is not a length up to the longest one")
    return counts_up_to(_lengths(far), most)


def count_at(pair, length):
    """Return the number of alike rows of one length."""
    far = Far(pair)
    if not is_count(length):
        raise BadNumber("this is not an integer from 0 on")
    if far.count == 0:
        return 0
    if length <= LONGEST_COUNTED:
        return counts_up_to(_lengths(far), length)[length]
    many_by_length = _many_by_length(far)
    if length > MOST_PARTS * many_by_length[0][0]:
        raise TooLong("the length is too great")
    if len(many_by_length) > MOST_LENGTHS:
        raise TooLong("the prime rows have too many different lengths")
    return _count_of_few(many_by_length, length)


def least(pair):
    """Return the first alike row, or None."""
    far = Far(pair)
    if far.count == 0:
        return None
    lengths = _lengths(far)
    shortest = min(lengths)
    if shortest > LONGEST_MADE:
        raise TooLong("the first alike row has too many numbers")
    return far.row(lengths.index(shortest))


def row_at(pair, number):
    """Return the alike row with a number, or None if there are no alike rows."""
    far = Far(pair)
    if not is_count(number):
        raise BadNumber("this is not an integer from 0 on")
    row = row_with_number(_pieces(far, LONGEST_COUNTED), number)
    if row is None and far.count > 0:
        raise TooLong("the row has too many numbers")
    return row


def number_of(pair, row):
    """Return how many alike rows come before a row, alike itself or not."""
    far = Far(pair)
    _check_row(pair, row)
    return number_before(_pieces(far, len(row)), row)


def between(pair, first, second):
    """Return how many alike rows stand between two rows, both of them counted in."""
    far = Far(pair)
    _check_row(pair, first)
    _check_row(pair, second)
    if (len(second), second) < (len(first), first):
        return 0
    rows = short_primes(far, len(second))
    pieces = list(rows.values())
    last = 0 if made_of(rows, second) is None else 1
    return number_before(pieces, second) + last - number_before(pieces, first)


def _lengths(far):
    """Return the lengths of the prime rows in their order."""
    return [far.length(k) for k in range(far.count)]


def _pieces(far, most):
    """Return the prime rows with at most so many numbers, in their order."""
    return list(short_primes(far, most).values())


def _many_by_length(far):
    """Return the lengths of prime rows in ascending order, each with how many have it."""
    many = {}
    for length in _lengths(far):
        many[length] = many.get(length, 0) + 1
    return [(length, many[length]) for length in sorted(many)]


def _count_of_few(many_by_length, length):
    """Return the number of alike rows of a length, each of which is made of few prime rows."""
    number = 0
    # The ways to reach each length by one prime row more at a time. Their lengths
    # may be far too great to go through all the lengths below this one.
    ways_by_length = {0: 1}
    for _ in range(MOST_PARTS):
        further = {}
        for reached, ways in ways_by_length.items():
            for part, many in many_by_length:
                if reached + part <= length:
                    further[reached + part] = further.get(reached + part, 0) + ways * many
        number = number + further.get(length, 0)
        ways_by_length = further
    return number


def _check_row(pair, value):
    """See to it that a value of any kind is a row of the books that is not too long."""
    if not are_below(value, pair.first.size):
        raise BadRow("this is not a row of the books")
    if len(value) > LONGEST_COUNTED:
        raise TooLong("the row has too many numbers")
