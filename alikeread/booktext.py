"""The texts of books and of pairs.

A text that is read is first cut at its newlines. What stands behind the last
newline is no line: it is empty, or else a line without a newline, and such a
one cannot stand anywhere.
"""

from alikeread.books import LONGEST_WORD, MOST_LETTERS, MOST_WORDS, Book, Pair
from alikeread.errors import BadText


def book_text(book):
    """Return the text of a book."""
    lines = [f"book {book.letters} {book.size}"]
    for word in book.words():
        lines.append(" ".join([str(letter) for letter in word]))
    return "".join([line + "\n" for line in lines])


def pair_text(pair):
    """Return the text of a pair."""
    return "pair\n" + book_text(pair.first) + book_text(pair.second)


def book_of(text):
    """Return the book of a text."""
    lines = text.split("\n")
    book = _book_at(lines, 0)
    check_end(lines, 1 + book.size)
    return book


def pair_of(text):
    """Return the pair of a text."""
    lines = text.split("\n")
    if line_at(lines, 0) != "pair":
        raise BadText(1)
    first = _book_at(lines, 1)
    second_at = 2 + first.size
    if _header_at(lines, second_at)[0] != first.letters:
        raise BadText(second_at + 1)
    second = _book_at(lines, second_at)
    check_end(lines, second_at + 1 + second.size)
    return Pair(first, second)


def line_at(lines, at):
    """Return a line by its place, counted from 0; all lines ahead of it are there."""
    if at >= len(lines) - 1:
        raise BadText(at + 1)
    return lines[at]


def check_end(lines, at):
    """See to it that nothing stands from a place on."""
    if at != len(lines) - 1 or lines[at] != "":
        raise BadText(at + 1)


def _numbers(pieces, end):
    """Return the tuple of the numbers below `end` that some strings write, or None."""
    # A table instead of int, which takes 01 and other digits and fails at long ones.
    number_of_piece = {str(number): number for number in range(end)}
    if not all([piece in number_of_piece for piece in pieces]):
        return None
    return tuple([number_of_piece[piece] for piece in pieces])


def _header_at(lines, at):
    """Return the numbers of letters and of words that the first line of a book tells."""
    pieces = line_at(lines, at).split(" ")
    if len(pieces) != 3 or pieces[0] != "book":
        raise BadText(at + 1)
    letters = _numbers(pieces[1:2], MOST_LETTERS + 1)
    size = _numbers(pieces[2:], MOST_WORDS + 1)
    if letters is None or size is None:
        raise BadText(at + 1)
    return letters[0], size[0]


def _word_at(lines, at, letters):
    """Return the word that a line tells."""
    word = _numbers(line_at(lines, at).split(" "), letters)
    if word is None or len(word) > LONGEST_WORD:
        raise BadText(at + 1)
    return word


def _book_at(lines, at):
    """Return the book whose text begins at a place."""
    letters, size = _header_at(lines, at)
    return Book(letters, [_word_at(lines, at + 1 + k, letters) for k in range(size)])
