"""Blocks, and the common texts, which are made of texts of blocks.

The texts of blocks begin with letters that are all different, so common texts
are counted and put in order as rows made of pieces are.
"""

from alikeread.books import LONGEST_TEXT
from alikeread.errors import BadLetter, BadNumber, BadRow, TooLong
from alikeread.kinds import are_below, is_below, is_count
from alikeread.pieces import LONGEST_COUNTED, number_before, pieces_with_number, ways_up_to
from alikeread.rests import MOST_RESTS, Reader


def block(pair, letter):
    """Return the rows of the block of a letter, or None."""
    reader = Reader(pair)
    if not is_below(letter, pair.letters):
        raise BadLetter("this is not a letter of the pair")
    return reader.block(letter, MOST_RESTS)


def blocks(pair):
    """Return the list of the letters that have a block, each with the rows of its block."""
    letters, firsts, seconds = Reader(pair).blocks(MOST_RESTS)
    return list(zip(letters, firsts, seconds))


def split(pair, text):
    """Return the first letters of the blocks that make a text, or None if it is not common."""
    reader = Reader(pair)
    _check_text(pair, text)
    pieces = {}
    letters = []
    place = 0
    while place < len(text):
        letter = text[place]
        if letter not in pieces:
            pieces[letter] = _text(pair, reader.block(letter, MOST_RESTS), len(text))
        piece = pieces[letter]
        if piece is None or text[place:place + len(piece)] != piece:
            return None
        letters.append(letter)
        place += len(piece)
    return tuple(letters) if len(letters) > 0 else None


def is_common(pair, text):
    """Tell whether both books read a text, which is not empty, from a row."""
    return split(pair, text) is not None


def made(pair, letters):
    """Return the text and both rows that the blocks of some letters make."""
    reader = Reader(pair)
    _check_text(pair, letters)
    rows = {}
    for letter in letters:
        if letter not in rows:
            rows[letter] = reader.block(letter, MOST_RESTS)
        if rows[letter] is None:
            raise BadRow("one of the letters has no block")
    lengths = {letter: pair.first.length(rows[letter][0]) for letter in rows}
    # Asked ahead of putting the rows together, which may be far too long.
    if sum([lengths[letter] for letter in letters]) > LONGEST_TEXT:
        raise TooLong("the text has too many letters")
    first = tuple([number for letter in letters for number in rows[letter][0]])
    second = tuple([number for letter in letters for number in rows[letter][1]])
    return pair.first.read(first), first, second


def texts_of(pair, length):
    """Return the number of common texts with so many letters."""
    reader = Reader(pair)
    if not is_below(length, LONGEST_COUNTED + 1):
        raise BadNumber("this is not a length up to the longest one")
    if length == 0:
        return 0
    return ways_up_to([len(piece) for piece in _short_texts(pair, reader)], length)[length]


def text_at(pair, number):
    """Return the common text with a number, or None if no letter has a block."""
    reader = Reader(pair)
    if not is_count(number):
        raise BadNumber("this is not an integer from 0 on")
    pieces = _short_texts(pair, reader)
    chosen = pieces_with_number([len(piece) for piece in pieces], number)
    if chosen is not None:
        return tuple([letter for k in chosen for letter in pieces[k]])
    if len(pieces) > 0 or _has_block(pair, reader):
        raise TooLong("the text has too many letters")
    return None


def number_of(pair, text):
    """Return how many common texts come before a text, common itself or not."""
    reader = Reader(pair)
    _check_text(pair, text)
    if len(text) > LONGEST_COUNTED:
        raise TooLong("the text has too many letters")
    pieces = _short_texts(pair, reader)
    return number_before(pieces, ways_up_to([len(piece) for piece in pieces], len(text)), text)


def _check_text(pair, value):
    """See to it that a value of any kind is a tuple of letters of a pair."""
    if not are_below(value, pair.letters):
        raise BadRow("this is not a tuple of letters of the pair")


def _text(pair, rows, most):
    """Return the text of a block, or None if there is no block or more letters."""
    if rows is None or pair.first.length(rows[0]) > most:
        return None
    return pair.first.read(rows[0])


def _short_texts(pair, reader):
    """Return the texts of blocks that are short enough to be counted, in ascending order."""
    found = [_short_text(pair, reader, letter) for letter in range(pair.letters)]
    return [text for text in found if text is not None]


def _short_text(pair, reader, letter):
    """Return the text of the block of a letter, or None if it is not short enough."""
    try:
        # At each rest the book that is behind has come further by a letter or more.
        rows = reader.block(letter, LONGEST_COUNTED)
    except TooLong:
        return None
    return _text(pair, rows, LONGEST_COUNTED)


def _has_block(pair, reader):
    """Tell whether any letter has a block, however long."""
    # No walk has more rests than there are letters in all words.
    enough = sum([len(word) for word in pair.first.words() + pair.second.words()])
    return any([reader.way(letter, enough)[0] == "block" for letter in range(pair.letters)])
