"""Rests, which tell how far one book is ahead, and the walks of letters.

A walk keeps its rests as states (side, word, start): the side that is ahead, 0
for the first book and 1 for the second one, its last word, and the place in this
word up to which the other side has come. In this way no rest is written down
before it is asked for.
"""

from alikeread.books import LONGEST_WORD
from alikeread.errors import BadLetter, BadRest, NotApart, TooLong
from alikeread.kinds import are_below, is_below

MOST_RESTS = 10000
SIDES = ("first", "second")
EVEN = ("even", ())


def after(pair, rest):
    """Return the number of the word that must come, and the rest behind it, or None."""
    reader = Reader(pair)
    if not is_rest_ahead(rest, pair.letters):
        raise BadRest("this is not a rest from which a word must come")
    side, word = rest
    told = reader.follow((SIDES.index(side), word, 0))
    if told is None:
        return None
    number, state = told
    return number, _rest(state)


def walk(pair, letter):
    """Return how the walk of a letter ends, its rests and both rows."""
    reader = Reader(pair)
    if not is_below(letter, pair.letters):
        raise BadLetter("this is not a letter of the pair")
    end, states, rows = reader.way(letter, MOST_RESTS)
    return end, tuple([_rest(state) for state in states]), tuple(rows[0]), tuple(rows[1])


def is_rest_ahead(value, letters):
    """Tell whether a value of any kind is a rest that is not even."""
    if not isinstance(value, tuple) or len(value) != 2:
        return False
    side, word = value
    if not isinstance(side, str) or side not in SIDES:
        return False
    return are_below(word, letters) and 1 <= len(word) <= LONGEST_WORD


class Reader:
    """Two books that start apart, each of which reads on where the other one is ahead."""

    def __init__(self, pair):
        if not pair.is_apart():
            raise NotApart("one of the books does not start apart")
        self._words = (pair.first.words(), pair.second.words())
        self._numbers = (_by_first_letter(self._words[0]), _by_first_letter(self._words[1]))

    def heads(self, letter):
        """Return the numbers of the words of both books that begin with a letter, None where there is none."""
        return self._numbers[0].get(letter), self._numbers[1].get(letter)

    def begin(self, letter):
        """Return the state behind the two words that begin with a letter, or None if they do not fit."""
        told = self.follow((0, self._words[0][self._numbers[0][letter]], 0))
        return None if told is None else told[1]

    def follow(self, state):
        """Return the number of the word that must come, and the state behind it, or None."""
        side, word, start = state
        number = self._numbers[1 - side].get(word[start])
        if number is None:
            return None
        coming = self._words[1 - side][number]
        left = len(word) - start
        if word[start:start + len(coming)] != coming[:left]:
            return None
        if len(coming) <= left:
            return number, (side, word, start + len(coming))
        return number, (1 - side, coming, left)

    def way(self, letter, most):
        """Return how the walk of a letter ends, its states, at most so many, and both rows."""
        first = self._numbers[0].get(letter)
        second = self._numbers[1].get(letter)
        if first is None or second is None:
            return "missing", [], ([], [])
        states = []
        rows = ([first], [second])
        seen = {}
        told = self.follow((0, self._words[0][first], 0))
        while told is not None:
            state = told[1]
            if len(states) == most:
                raise TooLong("the walk has too many rests")
            states.append(state)
            if is_even(state):
                return "block", states, rows
            if _has_come(state, seen):
                return "round", states, rows
            told = self.follow(state)
            if told is not None:
                rows[1 - state[0]].append(told[0])
        return "stops", states, rows


def _by_first_letter(words):
    """Return the numbers of some words by the letters with which they begin."""
    return {word[0]: number for number, word in enumerate(words)}


def is_even(state):
    """Tell whether both texts are the same in a state."""
    return state[2] == len(state[1])


def _rest(state):
    """Return the rest of a state."""
    if is_even(state):
        return EVEN
    side, word, start = state
    return SIDES[side], word[start:]


def same_rest(one, other):
    """Tell whether the rests of two states that are not even are the same."""
    left = len(one[1]) - one[2]
    if one[0] != other[0] or left != len(other[1]) - other[2]:
        return False
    return one[1][one[2]:] == other[1][other[2]:]


def _has_come(state, seen):
    """Tell whether a rest is among those seen, and put it there."""
    side, word, start = state
    left = len(word) - start
    if (side, left) not in seen:
        seen[(side, left)] = [word]
        return False
    # Rests of one length that end different words may still be the same.
    others = seen[(side, left)]
    if any([other[len(other) - left:] == word[start:] for other in others]):
        return True
    others.append(word)
    return False
