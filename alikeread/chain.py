"""Lesser pairs, and the chain of them, which comes home to an earlier pair."""

from alikeread.books import LONGEST_WORD, Pair, sure_book
from alikeread.errors import BadBook, NotApart, TooLong
from alikeread.rests import MOST_RESTS, Reader

MOST_PAIRS = 2000


def lesser(pair):
    """Return the lesser pair, whose words are the rows of the blocks."""
    check_pair(pair)
    return _lesser(pair)


def chain(pair):
    """Return the pairs from a pair down to the last new one, and the number of the one behind it."""
    check_pair(pair)
    pairs = []
    number_by_key = {}
    # A new one, since what is told is the caller's.
    coming = Pair(pair.first, pair.second)
    key = _key(coming)
    while key not in number_by_key:
        if len(pairs) == MOST_PAIRS:
            raise TooLong("the chain has too many pairs")
        number_by_key[key] = len(pairs)
        pairs.append(coming)
        coming = _lesser(coming)
        key = _key(coming)
    return pairs, number_by_key[key]


def alike_letters(pair):
    """Return the tuple of the numbers whose words are the same in both books."""
    check_pair(pair)
    seconds = pair.second.words()
    return tuple([number for number, word in enumerate(pair.first.words()) if word == seconds[number]])


def suffixes(book):
    """Return how many different words are shorter ends of words of a book."""
    # In ascending order of the words turned round, the ends that a word shares
    # with any word before it are those that it shares with the last one.
    turned = sorted([word[:0:-1] for word in book.words()])
    number = 0
    before = ()
    for word in turned:
        number += len(word) - _alike_ahead(before, word)
        before = word
    return number


def check_pair(pair):
    """See to it that the books of a pair have equally many words and start apart."""
    if not pair.is_even():
        raise BadBook("the books have not equally many words")
    if not pair.is_apart():
        raise NotApart("one of the books does not start apart")


def _lesser(pair):
    """Return the lesser pair of a pair that is looked at already."""
    _, firsts, seconds = Reader(pair).blocks(MOST_RESTS)
    if max([len(row) for row in firsts + seconds], default=0) > LONGEST_WORD:
        raise TooLong("a row of a block has too many numbers")
    size = pair.first.size
    return Pair(sure_book(size, firsts), sure_book(size, seconds))


def _key(pair):
    """Return what tells a pair apart from all others."""
    return pair.letters, tuple(pair.first.words()), tuple(pair.second.words())


def _alike_ahead(one, other):
    """Return how many letters two words begin with alike."""
    number = 0
    for first, second in zip(one, other):
        if first != second:
            break
        number += 1
    return number
