"""Papers, which show the prime rows of a pair so that nobody has to search.

A paper is looked at item by item: the rows of an item are followed with both
books, and those of its blocks make the pair of the next stage.
"""

from alikeread.books import LONGEST_WORD, Pair, same_pair, sure_book
from alikeread.chain import alike_letters, chain, check_pair
from alikeread.errors import BadNumber, BadPaper, TooLong
from alikeread.kinds import are_below, is_below, is_count
from alikeread.primes import LONGEST_PRIME
from alikeread.rests import MOST_RESTS, Reader, is_even, moment, same_rest

# How many items the tuple of each kind has.
SIZES = {"missing": 1, "block": 3, "stops": 3, "round": 5}


def paper(pair):
    """Return the right paper of a pair whose stages are those of its chain."""
    pairs, home = chain(pair)
    return tuple([_stage(one) for one in pairs]), home


def fault(pair, value):
    """Return where a value of any kind is not a right paper of a pair, or None."""
    check_pair(pair)
    return _look(pair, value)[1]


def pair_at(pair, value, k):
    """Return the pair of a stage of a paper."""
    pairs = _pairs(pair, value)
    _check_stage(value, k)
    return pairs[k]


def alike_at(pair, value, k):
    """Return the alike letters of the pair of a stage of a paper."""
    pairs = _pairs(pair, value)
    _check_stage(value, k)
    return alike_letters(pairs[k])


def shown(pair, value):
    """Return the prime rows that a paper shows, in ascending order."""
    pairs = _pairs(pair, value)
    home = value[1]
    rows = [(letter,) for letter in alike_letters(pairs[home])]
    for level in range(home, 0, -1):
        book = pairs[level].first
        # On the way up rows do not become shorter, so one that is too long need not be read.
        if any([book.length(row) > LONGEST_PRIME for row in rows]):
            raise TooLong("a prime row has too many numbers")
        rows = [book.read(row) for row in rows]
    return sorted(rows)


def _stage(pair):
    """Return the stage that tells the walks of a pair."""
    reader = Reader(pair)
    return tuple([_item(reader, letter) for letter in range(pair.letters)])


def _item(reader, letter):
    """Return the item that tells the walk of a letter."""
    end, states, rows = reader.way(letter, MOST_RESTS)
    if end == "missing":
        return (end,)
    if end != "round":
        return end, tuple(rows[0]), tuple(rows[1])
    came = [same_rest(state, states[-1]) for state in states].index(True)
    i, j = moment(states, came)
    return end, tuple(rows[0]), tuple(rows[1]), i, j


def _pairs(pair, value):
    """Return the pairs of the stages of a paper, and the one to which the last stage leads."""
    check_pair(pair)
    pairs, found = _look(pair, value)
    if found is not None:
        raise BadPaper("this is not a right paper of the pair")
    return pairs


def _check_stage(value, k):
    """See to it that a value of any kind is the number of a stage of a paper."""
    if not is_below(k, len(value[0])):
        raise BadNumber("this is not the number of a stage")


def _look(pair, value):
    """Return the pairs of the stages as far as they are right, and where the first fault is, or None."""
    pairs = [Pair(pair.first, pair.second)]
    if not _is_paper(value):
        return pairs, (-1, -1)
    stages, home = value
    for number, stage in enumerate(stages):
        above = pairs[number]
        if not isinstance(stage, tuple) or len(stage) != above.letters:
            return pairs, (number, -1)
        reader = Reader(above)
        for letter, item in enumerate(stage):
            if not _is_right(above, reader, letter, item):
                return pairs, (number, letter)
        pairs.append(_pair_below(above, stage))
    if not same_pair(pairs[-1], pairs[home]):
        return pairs, (len(stages), -1)
    return pairs, None


def _is_paper(value):
    """Tell whether a value of any kind has stages, and the number of one of them as home."""
    if not isinstance(value, tuple) or len(value) != 2:
        return False
    stages, home = value
    return isinstance(stages, tuple) and is_below(home, len(stages))


def _pair_below(pair, stage):
    """Return the pair to which a stage leads, all of whose items are right."""
    found = [item for item in stage if item[0] == "block"]
    size = pair.first.size
    return Pair(sure_book(size, [item[1] for item in found]), sure_book(size, [item[2] for item in found]))


def _is_right(pair, reader, letter, item):
    """Tell whether a value of any kind is a right item for a letter of a pair."""
    if not isinstance(item, tuple) or len(item) == 0 or not isinstance(item[0], str):
        return False
    kind = item[0]
    if kind not in SIZES or len(item) != SIZES[kind]:
        return False
    if kind == "missing":
        return None in reader.heads(letter)
    rows = item[1:3]
    if not _is_row(rows[0], pair.first.size) or not _is_row(rows[1], pair.second.size):
        return False
    if (rows[0][0], rows[1][0]) != reader.heads(letter):
        return False
    states = _states_along(reader, letter, rows)
    if kind == "block":
        return _is_block(states, rows)
    if kind == "stops":
        return _is_stop(reader, states, rows)
    return _is_round(states, item[3], item[4])


def _is_row(value, size):
    """Tell whether a value of any kind is a row with a number."""
    return are_below(value, size) and len(value) > 0


def _states_along(reader, letter, rows):
    """Return the states behind each step of two rows, which begin with a letter, or None if they do not go along."""
    state = reader.begin(letter)
    if state is None:
        return None
    states = [state]
    taken = [1, 1]
    while not is_even(state):
        side = 1 - state[0]
        if taken[side] == len(rows[side]):
            break
        told = reader.follow(state)
        # The books start apart, so behind a rest any other number does not fit.
        if told is None or told[0] != rows[side][taken[side]]:
            return None
        taken[side] += 1
        state = told[1]
        states.append(state)
    return states if taken == [len(rows[0]), len(rows[1])] else None


def _is_block(states, rows):
    """Tell whether two rows go along to the same text, and are short enough for words."""
    if states is None or not is_even(states[-1]):
        return False
    return len(rows[0]) <= LONGEST_WORD and len(rows[1]) <= LONGEST_WORD


def _is_stop(reader, states, rows):
    """Tell whether two rows go along to where nothing can come, or the first two words do not fit."""
    if states is None:
        # Rows of one number each go along, unless one word does not begin with the other.
        return len(rows[0]) == 1 and len(rows[1]) == 1
    return not is_even(states[-1]) and reader.follow(states[-1]) is None


def _is_round(states, i, j):
    """Tell whether two rows go along to a rest that came at a moment before."""
    if states is None or is_even(states[-1]) or not is_count(i) or not is_count(j):
        return False
    came = i + j - 2
    if came < 0 or came >= len(states) - 1 or moment(states, came) != (i, j):
        return False
    return same_rest(states[came], states[-1])
