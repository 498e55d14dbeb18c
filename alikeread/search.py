"""The search for alike rows of any two books with equally many words.

Inside, a rest is written as a state: the pair of what the first book and of what
the second book is ahead by, at least one of which is empty.
"""

from alikeread.books import LONGEST_WORD
from alikeread.errors import BadBook, BadNumber, BadRest, BadRow, TooLong
from alikeread.kinds import are_below, is_below
from alikeread.rests import EVEN, is_rest_ahead
from alikeread.signs import signs_of, word_of

MOST_FOUND = 5000
LONGEST_LISTED = 60
MOST_LISTED = 2000
BEGIN = ("", "")


def step(pair, rest, number):
    """Return the rest when both books read the word with a number on from a rest, or None."""
    _check_books(pair)
    if not _is_even_rest(rest) and not is_rest_ahead(rest, pair.letters):
        raise BadRest("this is not a rest of the pair")
    state = _behind(_state(rest), pair.first.word(number), pair.second.word(number))
    if state is None:
        return None
    _check_state(state)
    return _rest(state)


def rest_of(pair, row):
    """Return the rest behind a row, or None if the texts are no longer beginnings of one another."""
    _check_books(pair)
    if not are_below(row, pair.first.size):
        raise BadRow("this is not a row of the books")
    words = {number: _word_pair(pair, number) for number in sorted(set(row))}
    state = BEGIN
    for number in row:
        first, second = words[number]
        state = _behind(state, first, second)
        if state is None:
            return None
        _check_state(state)
    return _rest_of_signs(state)


def search(pair, most):
    """Look for the least alike row, and return what was found: "row", "none" or "open"."""
    _check_books(pair)
    if not is_below(most, MOST_FOUND + 1) or most == 0:
        raise BadNumber("this is not how many rests may be found")
    words = _word_pairs(pair)
    states = [BEGIN]
    ways = [None]
    known = set()
    at = 0
    while at < len(states):
        for number, (first, second) in enumerate(words):
            state = _behind(states[at], first, second)
            if state is None or state in known:
                continue
            if state == BEGIN:
                return "row", _row_along(ways, at) + (number,)
            if len(known) == most or _size(state) > LONGEST_WORD:
                return "open", len(known)
            known.add(state)
            states.append(state)
            ways.append((at, number))
        at += 1
    return "none", tuple([_rest_of_signs(state) for state in states[1:]])


def fault_of(pair, rests):
    """Return the fault of a value of any kind that is said to be a closed list, or None."""
    _check_books(pair)
    if not isinstance(rests, tuple) or not all([is_rest_ahead(rest, pair.letters) for rest in rests]):
        return "form"
    states = [_state((side, signs_of(word))) for side, word in rests]
    known = {state: True for state in states}
    if len(known) < len(states):
        return "form"
    words = _word_pairs(pair)
    if not _is_closed(BEGIN, words, known):
        return "begin"
    if not all([_is_closed(state, words, known) for state in states]):
        return "step"
    return None


def alike_rows(pair, length):
    """Return the alike rows with at most so many numbers, in order of their lengths."""
    return [row for row, _ in _rows_up_to(pair, length)]


def prime_rows(pair, length):
    """Return those of the alike rows that are not made of several alike rows."""
    return [row for row, is_prime in _rows_up_to(pair, length) if is_prime]


def _check_books(pair):
    """See to it that the books of a pair have equally many words."""
    if not pair.is_even():
        raise BadBook("the books have not equally many words")


def _is_even_rest(value):
    """Tell whether a value of any kind is the rest of equal texts."""
    if not isinstance(value, tuple) or len(value) != 2:
        return False
    side, word = value
    return isinstance(side, str) and side == EVEN[0] and isinstance(word, tuple) and len(word) == 0


def _state(rest):
    """Return the state of a rest, which may be written in signs."""
    side, word = rest
    return (word[:0], word) if side == "second" else (word, word[:0])


def _rest(state):
    """Return the rest of a state."""
    first, second = state
    if len(first) > 0:
        return "first", first
    return ("second", second) if len(second) > 0 else EVEN


def _rest_of_signs(state):
    """Return the rest of a state that is written in signs."""
    first, second = state
    return _rest((word_of(first), word_of(second)))


def _size(state):
    """Return how many letters one of the books is ahead by."""
    first, second = state
    return len(first) + len(second)


def _check_state(state):
    """See to it that neither book is too far ahead."""
    if _size(state) > LONGEST_WORD:
        raise TooLong("the rest has too many letters")


def _behind(state, first, second):
    """Return the state when both books read a word on, or None; all in signs, or all in letters."""
    one = state[0] + first
    other = state[1] + second
    common = min(len(one), len(other))
    if one[:common] != other[:common]:
        return None
    return one[common:], other[common:]


def _word_pair(pair, number):
    """Return the words of both books with a number, in signs."""
    return signs_of(pair.first.word(number)), signs_of(pair.second.word(number))


def _word_pairs(pair):
    """Return the words of both books in order, in signs."""
    return [_word_pair(pair, number) for number in range(pair.first.size)]


def _row_along(ways, at):
    """Return the row along which a search came to a state, told by the state ahead of each and the number."""
    numbers = []
    here = at
    while ways[here] is not None:
        here, number = ways[here]
        numbers.append(number)
    return tuple(numbers[::-1])


def _is_closed(state, words, known):
    """Tell whether each step from a state leads to a known one, or nowhere."""
    behind = [_behind(state, first, second) for first, second in words]
    return all([found is None or found in known for found in behind])


def _rows_up_to(pair, length):
    """Return the alike rows with at most so many numbers, and for each whether it is a prime row."""
    _check_books(pair)
    if not is_below(length, LONGEST_LISTED + 1):
        raise BadNumber("this is not a length up to the longest one")
    words = _word_pairs(pair)
    steps = {}
    found = []
    rows = [((), BEGIN, True)]
    for _ in range(length):
        rows = _one_longer(rows, words, steps)
        found.extend([(row, is_prime) for row, state, is_prime in rows if state == BEGIN])
    return found


def _one_longer(rows, words, steps):
    """Return the rows with one number more that have a rest, with their states, and whether no beginning is alike."""
    found = []
    for row, state, is_whole in rows:
        # Rows with the same rest go on alike.
        if state not in steps:
            steps[state] = _steps_from(state, words)
        stays_whole = is_whole and (state != BEGIN or len(row) == 0)
        found.extend([(row + (number,), behind, stays_whole) for number, behind in steps[state]])
        if len(found) > MOST_LISTED:
            raise TooLong("too many rows of one length have a rest")
    return found


def _steps_from(state, words):
    """Return the numbers with which one can go on from a state, and the states behind them."""
    steps = []
    for number, (first, second) in enumerate(words):
        behind = _behind(state, first, second)
        if behind is not None:
            _check_state(behind)
            steps.append((number, behind))
    return steps
