"""Rests, which tell how far one book is ahead, and the walks of letters.

A walk keeps its rests as states (side, word, start): the side that is ahead, 0
for the first book and 1 for the second one, its last word, and the place in this
word up to which the other side has come. In this way no rest is written down
before it is asked for.
"""

from alikeread.books import LONGEST_WORD
from alikeread.errors import BadLetter, BadRest, NotApart, TooLong
from alikeread.kinds import are_below, is_below

MOST_RESTS = 10000
SIDES = ("first", "second")
EVEN = ("even", ())


def after(pair, rest):
    """Return the number of the word that must come, and the rest behind it, or None."""
    reader = Reader(pair)
    if not is_rest_ahead(rest, pair.letters):
        raise BadRest("this is not a rest from which a word must come")
    side, word = rest
    told = reader.follow((SIDES.index(side), word, 0))
    if told is None:
        return None
    number, state = told
    if is_even(state):
        return number, EVEN
    return number, (SIDES[state[0]], state[1][state[2]:])


def walk(pair, letter):
    """Return how the walk of a letter ends, its rests and both rows."""
    reader = Reader(pair)
    if not is_below(letter, pair.letters):
        raise BadLetter("this is not a letter of the pair")
    end, states, rows = reader.way(letter, MOST_RESTS)
    rests = [(SIDES[side], word[start:]) for side, word, start in states]
    if end == "block":
        rests[-1] = EVEN
    return end, tuple(rests), tuple(rows[0]), tuple(rows[1])


def is_rest_ahead(value, letters):
    """Tell whether a value of any kind is a rest that is not even."""
    if not isinstance(value, tuple) or len(value) != 2:
        return False
    side, word = value
    if not isinstance(side, str) or side not in SIDES:
        return False
    return are_below(word, letters) and 1 <= len(word) <= LONGEST_WORD


class Reader:
    """Two books that start apart, each of which reads on where the other one is ahead."""

    def __init__(self, pair):
        self._words = (pair.first.words(), pair.second.words())
        self._numbers = (_by_first_letter(self._words[0]), _by_first_letter(self._words[1]))
        # Words that begin with the same letter leave fewer letters than words.
        if len(self._numbers[0]) < pair.first.size or len(self._numbers[1]) < pair.second.size:
            raise NotApart("one of the books does not start apart")

    def heads(self, letter):
        """Return the numbers of the words of both books that begin with a letter, None where there is none."""
        return self._numbers[0].get(letter), self._numbers[1].get(letter)

    def begin(self, letter):
        """Return the state behind the two words that begin with a letter, or None if they do not fit."""
        told = self.follow((0, self._words[0][self._numbers[0][letter]], 0))
        return None if told is None else told[1]

    def follow(self, state):
        """Return the number of the word that must come, and the state behind it, or None."""
        side, word, start = state
        number = self._numbers[1 - side].get(word[start])
        if number is None:
            return None
        coming = self._words[1 - side][number]
        left = len(word) - start
        if word[start:start + len(coming)] != coming[:left]:
            return None
        if len(coming) <= left:
            return number, (side, word, start + len(coming))
        return number, (1 - side, coming, left)

    def block(self, letter, most):
        """Return the rows of the block of a letter, or None; its walk may have so many rests."""
        end, _, rows = self.way(letter, most)
        return (tuple(rows[0]), tuple(rows[1])) if end == "block" else None

    def blocks(self, most):
        """Return the letters that have a block, in ascending order, and the lists of their first and second rows."""
        letters, firsts, seconds = [], [], []
        for letter, first in sorted(self._numbers[0].items()):
            second = self._numbers[1].get(letter)
            # Far down a chain most words that begin alike are the same.
            if second is not None and self._words[0][first] == self._words[1][second]:
                rows = (first,), (second,)
            else:
                rows = self.block(letter, most)
            if rows is not None:
                letters.append(letter)
                firsts.append(rows[0])
                seconds.append(rows[1])
        return letters, firsts, seconds

    def way(self, letter, most):
        """Return how the walk of a letter ends, its states, at most so many, and both rows."""
        first, second = self.heads(letter)
        if first is None or second is None:
            return "missing", [], ([], [])
        rows = ([first], [])
        states = []
        end = self._go_on((0, self._words[0][first], 0), rows, states, most)
        if len(states) == 0:
            # These two words do not fit, and both of them are taken all the same.
            return end, states, (rows[0], [second])
        if end == "round":
            return _up_to_round(states[:most], rows)
        # Where the walk ends in another way, no rest comes twice.
        if len(states) > most:
            raise TooLong("the walk has too many rests")
        return end, states, rows

    def _go_on(self, begin, rows, states, most):
        """Let both books read on, and return the end; a round perhaps goes on too far, or has too many states."""
        state = begin
        came = {}
        while len(states) <= most:
            side, ahead, _ = state
            behind = 1 - side
            start = _read_within(state, self._words[behind], self._numbers[behind], rows[behind], states)
            if start == len(ahead):
                return "block"
            told = self.follow((side, ahead, start))
            if told is None:
                return "stops"
            number, state = told
            rows[behind].append(number)
            states.append(state)
            # On each round there is such a state, in which the books have changed sides.
            if (behind, number, state[2]) in came:
                return "round"
            came[(behind, number, state[2])] = True
        return "round"


def _by_first_letter(words):
    """Return the numbers of some words by the letters with which they begin."""
    return {word[0]: number for number, word in enumerate(words)}


def _read_within(state, words, numbers, row, states):
    """Take the words that end within the word ahead, and return the place up to which they come."""
    side, ahead, start = state
    whole = len(ahead)
    while start < whole:
        number = numbers.get(ahead[start])
        if number is None:
            return start
        word = words[number]
        end = start + len(word)
        # A word of one letter fits, since it begins with the right one.
        if end > whole or (end > start + 1 and ahead[start:end] != word):
            return start
        row.append(number)
        start = end
        states.append((side, ahead, start))
    return start


def _up_to_round(states, rows):
    """Return the walk up to the first state whose rest has come before; without one there are too many."""
    seen = {}
    came = [at for at, state in enumerate(states) if _has_come(state, seen)]
    if len(came) == 0:
        raise TooLong("the walk has too many rests")
    i, j = moment(states, came[0])
    return "round", states[:came[0] + 1], (rows[0][:i], rows[1][:j])


def moment(states, at):
    """Return how many numbers of both rows are taken at a place in the states of a walk."""
    # Where the second book is ahead, the first one takes a number.
    i = 1 + sum([state[0] for state in states[:at]])
    return i, at + 2 - i


def is_even(state):
    """Tell whether both texts are the same in a state."""
    return state[2] == len(state[1])


def same_rest(one, other):
    """Tell whether the rests of two states that are not even are the same."""
    left = len(one[1]) - one[2]
    if one[0] != other[0] or left != len(other[1]) - other[2]:
        return False
    return one[1][one[2]:] == other[1][other[2]:]


def _has_come(state, seen):
    """Tell whether a rest is among those seen, and put it there."""
    side, word, start = state
    left = len(word) - start
    if (side, left) not in seen:
        seen[(side, left)] = [word]
        return False
    # Rests of one length that end different words may still be the same.
    others = seen[(side, left)]
    if any([other[len(other) - left:] == word[start:] for other in others]):
        return True
    others.append(word)
    return False
