"""Prime rows of any length, known by the chain.

A letter of a pair of the chain is the number of a word of the pair above it. So
each word of the first book of a pair is a row of numbers for the pair above, and
an alike letter of the pair at home, read by one of these books after the other,
is a prime row. Where a place in it is asked, only the words on the way are read.
"""

from alikeread.chain import alike_letters, chain
from alikeread.errors import BadNumber
from alikeread.kinds import is_below, is_count

LONGEST_STRETCH = 10000


class Far:
    """The prime rows of a pair, however long."""

    def __init__(self, pair):
        pairs, home = chain(pair)
        self._home = home
        self._words = [pairs[level].first.words() for level in range(home + 1)]
        self._lengths = self._weights([1] * pair.first.size)
        self._times = {}
        letter_by_head = {self._head(letter): letter for letter in alike_letters(pairs[home])}
        # Prime rows begin with different numbers, so these tell their order.
        self._letters = [letter_by_head[head] for head in sorted(letter_by_head)]
        self.count = len(self._letters)

    def length(self, k):
        """Return how many numbers a prime row has."""
        self._check(k)
        return self._lengths[self._home][self._letters[k]]

    def text_length(self, k):
        """Return how many letters the text of a prime row has."""
        numbers = self.numbers_in(k)
        return sum([many * len(self._words[0][number]) for number, many in enumerate(numbers)])

    def numbers_in(self, k):
        """Return how often the number of each word stands in a prime row."""
        self._check(k)
        many = [0] * len(self._words[self._home])
        many[self._letters[k]] = 1
        for level in range(self._home, 0, -1):
            below = [0] * len(self._words[level - 1])
            for letter, times in enumerate(many):
                for number in self._words[level][letter]:
                    below[number] = below[number] + times
            many = below
        return many

    def at(self, k, place):
        """Return the number at a place of a prime row."""
        if not is_below(place, self.length(k)):
            raise BadNumber("this is not a place of the prime row")
        return self._part(k, place, 1)[0]

    def stretch(self, k, place, many):
        """Return at most so many numbers of a prime row from a place on."""
        if not is_below(place, self.length(k) + 1):
            raise BadNumber("this is not a place of the prime row or its end")
        if not is_below(many, LONGEST_STRETCH + 1):
            raise BadNumber("this is not how many numbers a stretch may have")
        return self._part(k, place, many)

    def row(self, k):
        """Return a whole prime row; who asks this has looked at its length."""
        return self._part(k, 0, self.length(k))

    def before(self, k, number, place):
        """Return how often a number stands ahead of a place of a prime row."""
        length = self.length(k)
        self._check_number(number)
        if not is_below(place, length + 1):
            raise BadNumber("this is not a place of the prime row or its end")
        times = self._times_of(number)
        if place == length:
            return times[self._home][self._letters[k]]
        return self._ahead(k, place, self._lengths, times)

    def place_of(self, k, number, index):
        """Return the place where a number stands for the time with an index, or None."""
        self._check(k)
        self._check_number(number)
        if not is_count(index):
            raise BadNumber("this is not an integer from 0 on")
        times = self._times_of(number)
        if index >= times[self._home][self._letters[k]]:
            return None
        return self._ahead(k, index, times, self._lengths)

    def _check(self, k):
        """See to it that a value of any kind is the number of a prime row."""
        if not is_below(k, self.count):
            raise BadNumber("this is not the number of a prime row")

    def _check_number(self, value):
        """See to it that a value of any kind is the number of a word of the books."""
        if not is_below(value, len(self._words[0])):
            raise BadNumber("this is not the number of a word")

    def _head(self, letter):
        """Return the number with which the row of a letter of the pair at home begins."""
        head = letter
        for level in range(self._home, 0, -1):
            head = self._words[level][head][0]
        return head

    def _weights(self, lowest):
        """Return for each level what its letters weigh if the numbers of the words weigh so much."""
        weights = [lowest]
        for level in range(1, self._home + 1):
            above = weights[level - 1]
            weights.append([sum([above[number] for number in word]) for word in self._words[level]])
        return weights

    def _times_of(self, number):
        """Return for each level how often a number stands in the rows of its letters."""
        if number not in self._times:
            lowest = [0] * len(self._words[0])
            lowest[number] = 1
            self._times[number] = self._weights(lowest)
        return self._times[number]

    def _part(self, k, place, many):
        """Return at most so many numbers of a prime row from a place on."""
        row, skip = _cut([self._letters[k]], self._lengths[self._home], place, many)
        for level in range(self._home, 0, -1):
            longer = [number for letter in row for number in self._words[level][letter]]
            row, skip = _cut(longer, self._lengths[level - 1], skip, many)
        return tuple(row)

    def _ahead(self, k, left, weights, others):
        """Return what by other weights stands ahead of the number which, by weights, is behind `left`."""
        letter = self._letters[k]
        within = left
        found = 0
        for level in range(self._home, 0, -1):
            for part in self._words[level][letter]:
                letter = part
                if within < weights[level - 1][part]:
                    break
                within = within - weights[level - 1][part]
                found = found + others[level - 1][part]
        return found


def _cut(row, lengths, skip, many):
    """Return the part of a row that holds `many` numbers from a place on, and this place in the part."""
    start = 0
    left = skip
    while start < len(row) and lengths[row[start]] <= left:
        left = left - lengths[row[start]]
        start += 1
    end = start
    held = -left
    while end < len(row) and held < many:
        held = held + lengths[row[end]]
        end += 1
    return row[start:end], left
