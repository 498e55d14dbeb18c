"""Rows that several books read alike and that a machine takes.

Such a row is made of prime rows, and so it is a way through the states of the
machine that is pulled back along them. Prime rows begin with different numbers,
so the order of the rows is that of their ways.
"""

from heapq import heappop, heappush

from alikeread.errors import BadNumber, BadRow, TooLong
from alikeread.kinds import are_below, is_below, is_count
from alikeread.machine import pulled
from alikeread.many import primes_of_all
from alikeread.pieces import LONGEST_COUNTED

LONGEST_LEAST = 100000


class Within:
    """The rows that some books read alike and that a machine takes."""

    def __init__(self, books, machine):
        self.primes = primes_of_all(books)
        self.machine = pulled(machine, self.primes)
        self._rows = self.primes.words()
        size = self.primes.size
        table = self.machine.table()
        self._targets = [table[state * size:state * size + size] for state in range(machine.states)]
        self._reached = _all_reached(self._targets)
        self._leads = [_leads(self._rows, targets) for targets in self._targets]
        takes = {state: 1 for state in self.machine.takes}
        # In how many ways a state that takes is reached by 0, 1 and so on numbers, from each state on.
        self._ways = [[takes.get(state, 0) for state in range(machine.states)]]

    def there_is(self):
        """Tell whether there is such a row."""
        takes = self._ways[0]
        return any([takes[target] == 1 for state in self._reached for target in self._targets[state]])

    def least(self):
        """Return the first such row, or None."""
        if not self.there_is():
            return None
        fewest = self._fewest()
        left = min([many for many in self._lengths_from(0, fewest) if many is not None])
        if left > LONGEST_LEAST:
            raise TooLong("the first row has too many numbers")
        row = []
        state = 0
        while left > 0:
            k = self._lengths_from(state, fewest).index(left)
            row.extend(self._rows[k])
            left = left - len(self._rows[k])
            state = self._targets[state][k]
        return tuple(row)

    def counts(self, most):
        """Return the numbers of such rows of the lengths 0, 1 and so on up to `most`."""
        _check_length(most)
        self._count_up_to(most)
        return [0] + [self._ways[length][0] for length in range(1, most + 1)]

    def row_at(self, length, number):
        """Return the row with a number among those of a length, or None."""
        _check_length(length)
        if not is_count(number):
            raise BadNumber("this is not an integer from 0 on")
        self._count_up_to(length)
        if length == 0 or number >= self._ways[length][0]:
            return None
        row = []
        state = 0
        left = number
        while len(row) < length:
            for piece, target in zip(self._rows, self._targets[state]):
                many = self._ways_behind(piece, target, length - len(row))
                if left < many:
                    row.extend(piece)
                    state = target
                    break
                left = left - many
        return tuple(row)

    def number_of(self, row):
        """Return how many such rows of the same length come before such a row."""
        if not are_below(row, self.primes.letters):
            raise BadRow("this is not a row of the books")
        if len(row) > LONGEST_COUNTED:
            raise TooLong("the row has too many numbers")
        way = self.primes.row_of(row)
        if way is None or len(way) == 0 or not self.machine.takes_row(way):
            raise BadRow("this row is not alike, or the machine does not take it")
        self._count_up_to(len(row))
        number = 0
        state = 0
        left = len(row)
        for k in way:
            number += sum([
                self._ways_behind(piece, target, left)
                for piece, target in zip(self._rows[:k], self._targets[state])])
            left = left - len(self._rows[k])
            state = self._targets[state][k]
        return number

    def _count_up_to(self, length):
        """See to it that the ways are counted up to a length."""
        while len(self._ways) <= length:
            self._ways.append(self._ways_of(len(self._ways)))

    def _ways_of(self, length):
        """Return in how many ways a state that takes is reached by so many numbers, from each state on."""
        ways = [0] * len(self._targets)
        for state in self._reached:
            for part, times, targets in self._leads[state]:
                if part <= length:
                    behind = self._ways[length - part]
                    ways[state] += times * sum([behind[target] for target in targets])
        return ways

    def _ways_behind(self, piece, target, length):
        """Return in how many ways a row of so many numbers that begins with a piece goes on behind it."""
        if len(piece) > length:
            return 0
        return self._ways[length - len(piece)][target]

    def _fewest(self):
        """Return the lengths of the shortest ways to a state that takes, by the states from which there is one."""
        sources = [[] for _ in self._targets]
        for state in self._reached:
            for piece, target in zip(self._rows, self._targets[state]):
                sources[target].append((len(piece), state))
        fewest = {}
        queue = [(0, state) for state in self.machine.takes]
        while len(queue) > 0:
            many, state = heappop(queue)
            if state not in fewest:
                fewest[state] = many
                for part, source in sources[state]:
                    heappush(queue, (many + part, source))
        return fewest

    def _lengths_from(self, state, fewest):
        """Return for each prime row how long the shortest way from a state is that begins with it, or None."""
        lengths = []
        for piece, target in zip(self._rows, self._targets[state]):
            lengths.append(len(piece) + fewest[target] if target in fewest else None)
        return lengths


def _check_length(value):
    """See to it that a value of any kind is a length up to the longest one that is counted."""
    if not is_below(value, LONGEST_COUNTED + 1):
        raise BadNumber("this is not a length up to the longest one")


def _all_reached(targets):
    """Return the states that are reached from state 0 on, itself among them."""
    reached = [0]
    known = {0: True}
    at = 0
    while at < len(reached):
        for target in targets[reached[at]]:
            if target not in known:
                known[target] = True
                reached.append(target)
        at += 1
    return reached


def _leads(rows, targets):
    """Return for each length of rows, and each number of times, the states to which so many rows of it lead."""
    many = {}
    for row, target in zip(rows, targets):
        many[(len(row), target)] = many.get((len(row), target), 0) + 1
    found = {}
    for (length, target), times in many.items():
        found.setdefault((length, times), []).append(target)
    return [(length, times, found[(length, times)]) for length, times in found]
