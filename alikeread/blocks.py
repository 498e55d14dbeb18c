"""Blocks, and the common texts, which are made of texts of blocks.

The texts of blocks begin with letters that are all different. So the common
texts of one length are counted by their first blocks, and the order of the
first blocks is the order of the texts. The last three functions of this file do
this for any pieces that begin with different letters.
"""

from alikeread.books import LONGEST_TEXT
from alikeread.errors import BadLetter, BadNumber, BadRow, TooLong
from alikeread.kinds import are_below, is_below, is_count
from alikeread.rests import MOST_RESTS, Reader

LONGEST_COUNTED = 1000


def block(pair, letter):
    """Return the rows of the block of a letter, or None."""
    reader = Reader(pair)
    if not is_below(letter, pair.letters):
        raise BadLetter("this is not a letter of the pair")
    return _rows(reader, letter, MOST_RESTS)


def blocks(pair):
    """Return the list of the letters that have a block, each with the rows of its block."""
    reader = Reader(pair)
    found = []
    for letter in range(pair.letters):
        rows = _rows(reader, letter, MOST_RESTS)
        if rows is not None:
            found.append((letter, rows[0], rows[1]))
    return found


def split(pair, text):
    """Return the first letters of the blocks that make a text, or None if it is not common."""
    reader = Reader(pair)
    _check_text(pair, text)
    pieces = {}
    letters = []
    place = 0
    while place < len(text):
        letter = text[place]
        if letter not in pieces:
            pieces[letter] = _text(pair, _rows(reader, letter, MOST_RESTS), len(text))
        piece = pieces[letter]
        if piece is None or text[place:place + len(piece)] != piece:
            return None
        letters.append(letter)
        place += len(piece)
    return tuple(letters) if len(letters) > 0 else None


def is_common(pair, text):
    """Tell whether both books read a text, which is not empty, from a row."""
    return split(pair, text) is not None


def made(pair, letters):
    """Return the text and both rows that the blocks of some letters make."""
    reader = Reader(pair)
    _check_text(pair, letters)
    rows = {}
    for letter in letters:
        if letter not in rows:
            rows[letter] = _rows(reader, letter, MOST_RESTS)
        if rows[letter] is None:
            raise BadRow("one of the letters has no block")
    lengths = {letter: pair.first.length(rows[letter][0]) for letter in rows}
    # Asked ahead of putting the rows together, which may be far too long.
    if sum([lengths[letter] for letter in letters]) > LONGEST_TEXT:
        raise TooLong("the text has too many letters")
    first = tuple([number for letter in letters for number in rows[letter][0]])
    second = tuple([number for letter in letters for number in rows[letter][1]])
    return pair.first.read(first), first, second


def texts_of(pair, length):
    """Return the number of common texts with so many letters."""
    reader = Reader(pair)
    if not is_below(length, LONGEST_COUNTED + 1):
        raise BadNumber("this is not a length up to the longest one")
    if length == 0:
        return 0
    return ways_up_to(_short_texts(pair, reader), length)[length]


def text_at(pair, number):
    """Return the common text with a number, or None if no letter has a block."""
    reader = Reader(pair)
    if not is_count(number):
        raise BadNumber("this is not an integer from 0 on")
    pieces = _short_texts(pair, reader)
    ways = ways_up_to(pieces, LONGEST_COUNTED)
    left = number
    for length in range(1, LONGEST_COUNTED + 1):
        if left < ways[length]:
            return made_at(pieces, ways, length, left)
        left = left - ways[length]
    if len(pieces) > 0 or _has_block(pair, reader):
        raise TooLong("the text has too many letters")
    return None


def number_of(pair, text):
    """Return how many common texts come before a text, common itself or not."""
    reader = Reader(pair)
    _check_text(pair, text)
    if len(text) > LONGEST_COUNTED:
        raise TooLong("the text has too many letters")
    pieces = _short_texts(pair, reader)
    ways = ways_up_to(pieces, len(text))
    return sum(ways[1:len(text)]) + made_before(pieces, ways, text)


def _check_text(pair, value):
    """See to it that a value of any kind is a tuple of letters of a pair."""
    if not are_below(value, pair.letters):
        raise BadRow("this is not a tuple of letters of the pair")


def _rows(reader, letter, most):
    """Return the rows of the block of a letter, or None."""
    end, _, rows = reader.way(letter, most)
    if end != "block":
        return None
    return tuple(rows[0]), tuple(rows[1])


def _text(pair, rows, most):
    """Return the text of a block, or None if there is no block or more letters."""
    if rows is None or pair.first.length(rows[0]) > most:
        return None
    return pair.first.read(rows[0])


def _short_texts(pair, reader):
    """Return the texts of blocks that are short enough to be counted, in ascending order."""
    found = [_short_text(pair, reader, letter) for letter in range(pair.letters)]
    return [text for text in found if text is not None]


def _short_text(pair, reader, letter):
    """Return the text of the block of a letter, or None if it is not short enough."""
    try:
        # At each rest the book that is behind has come further by a letter or more.
        rows = _rows(reader, letter, LONGEST_COUNTED)
    except TooLong:
        return None
    return _text(pair, rows, LONGEST_COUNTED)


def _has_block(pair, reader):
    """Tell whether any letter has a block, however long."""
    # No walk has more rests than there are letters in all words.
    enough = sum([len(word) for word in pair.first.words() + pair.second.words()])
    return any([reader.way(letter, enough)[0] == "block" for letter in range(pair.letters)])


def ways_up_to(pieces, most):
    """Return the list of the numbers of rows of pieces with 0, 1 and so on up to `most` letters in all."""
    lengths = [len(piece) for piece in pieces]
    ways = [1]
    for length in range(1, most + 1):
        ways.append(sum([ways[length - part] for part in lengths if part <= length]))
    return ways


def made_at(pieces, ways, length, number):
    """Return what has a number among all that is made of pieces with so many letters."""
    letters = []
    left = number
    while len(letters) < length:
        for piece in pieces:
            room = length - len(letters) - len(piece)
            many = ways[room] if room >= 0 else 0
            if left < many:
                letters.extend(piece)
                break
            left = left - many
    return tuple(letters)


def made_before(pieces, ways, text):
    """Return how many of all that is made of pieces with as many letters come before a text."""
    number = 0
    left = text
    while len(left) > 0:
        fitting = [piece for piece in pieces if len(piece) <= len(left)]
        number += sum([ways[len(left) - len(piece)] for piece in fitting if piece < left[:len(piece)]])
        here = [piece for piece in fitting if piece == left[:len(piece)]]
        if len(here) == 0:
            return number
        left = left[len(here[0]):]
    return number
