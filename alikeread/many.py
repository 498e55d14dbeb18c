"""Rows that several books read alike.

The prime rows of some books are the words of a book over the numbers of their
words. Put ahead of one of these books, and ahead of a further book, it makes a
pair whose alike rows tell those of all the books together.
"""

from alikeread.books import LONGEST_WORD, Book, Pair
from alikeread.errors import BadBook, NotApart, TooLong
from alikeread.primes import primes


def are_alike(books, row):
    """Tell whether all books, which need not start apart, read the same text from a row."""
    _check_books(books)
    text = books[0].read(row)
    # All of them are read, since a text that is too long is told ahead of unlike ones.
    alike = [book.read(row) == text for book in books[1:]]
    return len(row) > 0 and all(alike)


def primes_of_all(books):
    """Return the book of the prime rows of all the books, in ascending order."""
    _check_books(books)
    if not all([book.starts_apart() for book in books]):
        raise NotApart("one of the books does not start apart")
    size = books[0].size
    known = Book(size, [(number,) for number in range(size)])
    for book in books[1:]:
        known = _with_one_more(known, books[0], book)
    return known


def _check_books(books):
    """See to it that there are books, with equally many words over equally many letters."""
    if len(books) == 0:
        raise BadBook("there is no book")
    shapes = {(book.size, book.letters): True for book in books}
    if len(shapes) > 1:
        raise BadBook("the books have not equally many words over equally many letters")


def _with_one_more(known, elder, book):
    """Return the book of the prime rows of some books, one of which is `elder`, and one more."""
    # From a prime row all the elder books read the same text.
    if any([one.length(row) > LONGEST_WORD for row in known.words() for one in (elder, book)]):
        raise TooLong("the text of a prime row has too many letters")
    rows = primes(Pair(known.then(elder), known.then(book)))
    # Rows that are short over the known prime rows may yet be too long over the numbers of words.
    if any([known.length(row) > LONGEST_WORD for row in rows]):
        raise TooLong("a prime row has too many numbers")
    # Rows over ascending words that start apart stay in their order when they are read.
    return Book(known.letters, [known.read(row) for row in rows])
