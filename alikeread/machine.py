"""Machines that read rows of numbers and take some of them."""

from alikeread.errors import BadMachine, BadNumber, BadRow
from alikeread.kinds import are_below, is_below

MOST_STATES = 400
MOST_NUMBERS = 60


class Machine:
    """States, and a table that tells for each state and each number the next state."""

    def __init__(self, states, letters, table, takes):
        if not is_below(states, MOST_STATES + 1) or states == 0:
            raise BadMachine("this is not a number of states")
        if not is_below(letters, MOST_NUMBERS + 1):
            raise BadMachine("this is not how many numbers a machine reads")
        if not _is_table(table, states, letters):
            raise BadMachine("this is not the table of a machine")
        if not _are_ascending(takes, states):
            raise BadMachine("this is not an ascending tuple of different states")
        self.states = states
        self.letters = letters
        self.takes = takes
        self._table = list(table)

    def table(self):
        """Return a new list of the next states, those of state 0 first."""
        return list(self._table)

    def after(self, state, row):
        """Return the state to which a row leads from a state."""
        if not is_below(state, self.states):
            raise BadNumber("this is not a state")
        if not are_below(row, self.letters):
            raise BadRow("this is not a tuple of numbers that the machine reads")
        reached = state
        for number in row:
            reached = self._table[reached * self.letters + number]
        return reached

    def takes_row(self, row):
        """Tell whether the machine takes a row."""
        return self.after(0, row) in self.takes


def pulled(machine, book):
    """Return the machine that reads rows of a book as a machine reads their texts."""
    if book.letters != machine.letters:
        raise BadMachine("the book has not as many letters as the machine")
    columns = _columns(machine)
    reached = [_through(columns, machine.states, word) for word in book.words()]
    table = [states[state] for state in range(machine.states) for states in reached]
    return Machine(machine.states, book.size, table, machine.takes)


def both(first, second):
    """Return the machine that takes what both of two machines take."""
    if first.letters != second.letters:
        raise BadMachine("the machines do not read the same numbers")
    many = second.states
    if first.states * many > MOST_STATES:
        raise BadMachine("there would be too many states")
    table = []
    for one in range(first.states):
        for other in range(many):
            for number in range(first.letters):
                table.append(first.after(one, (number,)) * many + second.after(other, (number,)))
    takes = [one * many + other for one in first.takes for other in second.takes]
    return Machine(first.states * many, first.letters, table, tuple(takes))


def _is_table(value, states, letters):
    """Tell whether a value of any kind is the table of a machine."""
    if not isinstance(value, list) or len(value) != states * letters:
        return False
    return are_below(tuple(value), states)


def _are_ascending(value, states):
    """Tell whether a value of any kind is an ascending tuple of different states."""
    if not are_below(value, states):
        return False
    return all([value[k] < value[k + 1] for k in range(len(value) - 1)])


def _columns(machine):
    """Return for each number the list of the states to which it leads."""
    table = machine.table()
    return [table[number::machine.letters] for number in range(machine.letters)]


def _through(columns, states, word):
    """Return the list of the states to which a word leads, from each state on."""
    reached = list(range(states))
    for number in word:
        column = columns[number]
        reached = [column[state] for state in reached]
    return reached
