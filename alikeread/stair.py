"""The stair, which makes a pair of books from a tape machine and a word.

The alike rows of the pair are the runs of the machine that halt: the second book
tells one configuration after the other between two walls, and the first one reads
them. What must be read and what is told for it stands in rules, one for each word.
"""

from alikeread.books import Book, Pair
from alikeread.errors import BadRow, TooLong
from alikeread.kinds import are_below
from alikeread.tape import check_steps, without_blanks

LONGEST_ROW = 20000


class Stair:
    """The pair of books of a tape machine and a word."""

    def __init__(self, machine, word):
        self._begin = machine.begin(word)
        self._machine = machine
        self._letters = Letters(machine)
        ahead = _opening_rules(self._letters, word) + _copying_rules(self._letters)
        steps = _step_rules(self._letters, machine)
        self._rules = ahead + steps + _sweeping_rules(self._letters) + _closing_rules(self._letters)
        self._steps_from = len(ahead)
        self._steps_to = len(ahead) + len(steps)
        # With too many rules these are no books.
        self.pair = _pair(self._letters, self._rules)

    def row_of(self, most):
        """Return the row of the run if the machine halts within so many steps, or None."""
        check_steps(most)
        if not self._halts(most):
            return None
        number_by_read = {read: number for number, (read, _) in enumerate(self._rules)}
        row = [0]
        # What the second book has told, and the first one has not read yet.
        told = self._rules[0][1][1:]
        last = self._rules[-1][0][:-1]
        while told != last:
            start, end = self._changed_part(told, number_by_read)
            changed = number_by_read[told[start:end]]
            row.extend([number_by_read[(letter,)] for letter in told[:start]])
            row.append(changed)
            row.extend([number_by_read[(letter,)] for letter in told[end:]])
            # The closing is still to come.
            if len(row) >= LONGEST_ROW:
                raise TooLong("the row has too many numbers")
            told = told[:start] + self._rules[changed][1] + told[end:]
        return tuple(row + [len(self._rules) - 1])

    def run_of(self, row):
        """Return the run that an alike row tells, and how often it tells it."""
        if not are_below(row, len(self._rules)) or not _is_alike(self.pair, row):
            raise BadRow("this is not an alike row of the pair")
        times = row.count(0)
        run = []
        tape = []
        state = place = 0
        # An alike row is one row, some times behind itself, and only its first number is the opening.
        for number in row[:len(row) // times]:
            for letter in self._rules[number][0]:
                if letter < self._letters.marks:
                    tape.append(letter)
                elif letter <= self._letters.halted:
                    state, place = letter - self._letters.marks, len(tape)
                elif letter == self._letters.east:
                    run.append((state, without_blanks(tuple(tape)), place))
                    tape = []
                    if state + self._letters.marks == self._letters.halted:
                        return run, times
        return run, times

    def steps_of(self, row):
        """Return how many numbers in a row tell a step of the machine."""
        if not are_below(row, len(self._rules)):
            raise BadRow("this is not a row of the books")
        return len([number for number in row if self._steps_from <= number < self._steps_to])

    def _halts(self, most):
        """Tell whether the machine halts within so many steps."""
        configuration = self._begin
        for _ in range(most):
            configuration = self._machine.next(configuration)
            if configuration[0] == self._machine.states:
                return True
        return False

    def _changed_part(self, told, number_by_read):
        """Return where the part of a configuration begins and ends that is not read letter by letter."""
        heads = [at for at, letter in enumerate(told) if self._letters.marks <= letter <= self._letters.sweeper]
        at = heads[0]
        # The head is read with what is behind it, with what is on both sides, or as the sweeper.
        places = [(at, at + 2), (at - 1, at + 2), (at - 1, at + 1)]
        return [(start, end) for start, end in places if told[start:end] in number_by_read][0]


class Letters:
    """The letters of the books of a stair: marks, states, and then these."""

    def __init__(self, machine):
        self.marks = machine.marks
        self.halted = machine.marks + machine.states
        self.sweeper = self.halted + 1
        self.west = self.halted + 2
        self.east = self.halted + 3
        self.opening = self.halted + 4
        self.closing = self.halted + 5
        self.star = self.halted + 6


def _opening_rules(letters, word):
    """Return the rule that begins with the first configuration."""
    write = (letters.opening, letters.west, letters.marks) + word + (letters.east,)
    return [((letters.opening,), write)]


def _copying_rules(letters):
    """Return the rules for what stays as it is."""
    copied = list(range(letters.marks)) + [letters.west, letters.east]
    return [((letter,), (letter,)) for letter in copied]


def _step_rules(letters, machine):
    """Return the rules for the steps of the machine, in the order of its rows."""
    rules = []
    for number, (written, move, behind) in enumerate(machine.table()):
        state = letters.marks + number // letters.marks
        mark = number % letters.marks
        reached = letters.marks + behind
        reads = [((mark,), ())]
        if mark == 0:
            # The tape is told only up to the east wall, and behind it are blanks.
            reads.append(((letters.east,), (letters.east,)))
        for read, wall in reads:
            if move == 1:
                rules.append(((state,) + read, (written, reached) + wall))
            else:
                rules.append(((letters.west, state) + read, (letters.west, reached, written) + wall))
                for ahead in range(letters.marks):
                    rules.append(((ahead, state) + read, (reached, ahead, written) + wall))
    return rules


def _sweeping_rules(letters):
    """Return the rules that take away the marks when the machine has halted."""
    behind = [((letters.halted, mark), (letters.halted,)) for mark in range(letters.marks)]
    turn = [((letters.halted, letters.east), (letters.sweeper, letters.east))]
    ahead = [((mark, letters.sweeper), (letters.sweeper,)) for mark in range(letters.marks)]
    return behind + turn + ahead


def _closing_rules(letters):
    """Return the rule that ends with both texts the same."""
    return [((letters.west, letters.sweeper, letters.east, letters.closing), (letters.closing,))]


def _pair(letters, rules):
    """Return the pair of books of some rules, the first and the last of which open and close."""
    star = letters.star
    firsts = [tuple([sign for letter in read for sign in (star, letter)]) for read, _ in rules]
    seconds = [tuple([sign for letter in write for sign in (letter, star)]) for _, write in rules]
    seconds[0] = (star,) + seconds[0]
    seconds[-1] = (letters.closing,)
    return Pair(Book(star + 1, firsts), Book(star + 1, seconds))


def _is_alike(pair, row):
    """Tell whether both books read the same text from a row, however long it is."""
    texts = []
    for words in (pair.first.words(), pair.second.words()):
        texts.append([letter for number in row for letter in words[number]])
    return len(row) > 0 and texts[0] == texts[1]
