"""Tape machines, which write marks on a tape as they go."""

from alikeread.errors import BadMachine, BadNumber, BadRow
from alikeread.kinds import are_below, is_below

LEAST_MARKS = 2
MOST_MARKS = 8
MOST_STATES = 20
LONGEST_WORD = 200
MOST_STEPS = 10000


class Tape:
    """A tape machine; the state that is as many as the states is the one in which it has halted."""

    def __init__(self, marks, states, rows):
        if not is_below(marks, MOST_MARKS + 1) or marks < LEAST_MARKS:
            raise BadMachine("this is not a number of marks")
        if not is_below(states, MOST_STATES + 1) or states == 0:
            raise BadMachine("this is not a number of states")
        if not _are_rows(rows, marks, states):
            raise BadMachine("these are not the rows of a tape machine")
        self.marks = marks
        self.states = states
        self._rows = list(rows)

    def table(self):
        """Return a new list of the rows, those of state 0 first, each in the order of the marks."""
        return list(self._rows)

    def begin(self, word):
        """Return the configuration with a word on the tape, in state 0."""
        if not are_below(word, self.marks) or len(word) > LONGEST_WORD:
            raise BadRow("this is not a word on the tape")
        return 0, without_blanks(word), 0

    def next(self, configuration):
        """Return the configuration behind one, or None if the machine has halted."""
        state, tape, place = configuration
        if state == self.states:
            return None
        mark = tape[place] if place < len(tape) else 0
        written, move, behind = self._rows[state * self.marks + mark]
        if written != mark:
            # The head may have gone over blanks that are not told.
            blanks = (0,) * (place - len(tape))
            tape = without_blanks(tape[:place] + blanks + (written,) + tape[place + 1:])
        return behind, tape, max(place + move, 0)

    def run(self, word, most):
        """Return the configurations from the beginning on, behind at most so many steps."""
        configurations = [self.begin(word)]
        check_steps(most)
        for _ in range(most):
            coming = self.next(configurations[-1])
            if coming is None:
                break
            configurations.append(coming)
        return configurations


def check_steps(value):
    """See to it that a value of any kind is how many steps a machine may be followed."""
    if not is_below(value, MOST_STEPS + 1):
        raise BadNumber("this is not a number of steps")


def without_blanks(marks):
    """Return a tuple of marks without the blanks at its end."""
    end = len(marks)
    while end > 0 and marks[end - 1] == 0:
        end = end - 1
    return marks[:end]


def _are_rows(value, marks, states):
    """Tell whether a value of any kind is a list of the rows of a tape machine."""
    if not isinstance(value, list) or len(value) != marks * states:
        return False
    return all([_is_row(row, marks, states) for row in value])


def _is_row(value, marks, states):
    """Tell whether a value of any kind tells a mark, a move and a state."""
    if not isinstance(value, tuple) or len(value) != 3:
        return False
    mark, move, state = value
    return is_below(mark, marks) and _is_move(move) and is_below(state, states + 1)


def _is_move(value):
    """Tell whether a value of any kind is a move to the left or to the right."""
    return isinstance(value, int) and not isinstance(value, bool) and value in (-1, 1)
