"""Books, which give a word to each number, and pairs of books."""

from alikeread.errors import BadBook, BadNumber, BadRow, NotApart, TooLong
from alikeread.kinds import are_below, is_below

MOST_LETTERS = 60
MOST_WORDS = 60
LONGEST_WORD = 5000
LONGEST_TEXT = 100000


def _is_word(value, letters):
    """Tell whether a value of any kind is a word over the letters below a number."""
    return are_below(value, letters) and 1 <= len(value) <= LONGEST_WORD


def _are_words(value, letters):
    """Tell whether a value of any kind is a list of words for a book."""
    if not isinstance(value, list) or len(value) > MOST_WORDS:
        return False
    return all([_is_word(word, letters) for word in value])


class Book:
    """Words, numbered from 0 on, over the letters below a number."""

    def __init__(self, letters, words):
        if not is_below(letters, MOST_LETTERS + 1):
            raise BadBook("this is not a number of letters")
        if not _are_words(words, letters):
            raise BadBook("these are not the words of a book")
        self.letters = letters
        self.size = len(words)
        self._words = list(words)

    def words(self):
        """Return a new list of the words."""
        return list(self._words)

    def word(self, number):
        """Return the word with a number."""
        if not is_below(number, self.size):
            raise BadNumber("this is not the number of a word")
        return self._words[number]

    def length(self, row):
        """Return the number of letters of the text of a row."""
        if not are_below(row, self.size):
            raise BadRow("this is not a row of the book")
        return sum([len(self._words[number]) for number in row])

    def read(self, row):
        """Return the text of a row."""
        if self.length(row) > LONGEST_TEXT:
            raise TooLong("the text has too many letters")
        return tuple([letter for number in row for letter in self._words[number]])

    def starts_apart(self):
        """Tell whether the first letters of the words are all different."""
        return len({word[0] for word in self._words}) == self.size

    def ends_apart(self):
        """Tell whether the last letters of the words are all different."""
        return len({word[-1] for word in self._words}) == self.size

    def turned(self):
        """Return the book with each word turned round."""
        return Book(self.letters, [word[::-1] for word in self._words])

    def row_of(self, text):
        """Return the row with a text, or None; the book must start apart."""
        if not self.starts_apart():
            raise NotApart("the book does not start apart")
        if not are_below(text, self.letters):
            raise BadRow("this is not a tuple of letters of the book")
        number_by_head = {word[0]: number for number, word in enumerate(self._words)}
        row = []
        place = 0
        while place < len(text):
            # The book starts apart, so the letter here leaves only one word.
            number = number_by_head.get(text[place])
            if number is None:
                return None
            word = self._words[number]
            if text[place:place + len(word)] != word:
                return None
            row.append(number)
            place += len(word)
        return tuple(row)

    def then(self, other):
        """Return the book that reads with this book and then with the other one."""
        if other.size != self.letters:
            raise BadBook("the other book has not as many words as this one has letters")
        # Asked ahead of reading, which would tell TooLong of the longest words.
        if any([other.length(word) > LONGEST_WORD for word in self._words]):
            raise BadBook("a word would have too many letters")
        return Book(other.letters, [other.read(word) for word in self._words])


def sure_book(letters, words):
    """Return the book of words that are known to make one, without a look at each letter."""
    book = Book(letters, [])
    book.size = len(words)
    book._words = list(words)
    return book


def same(first, second):
    """Tell whether two books have the same number of letters and the same words."""
    return first.letters == second.letters and first.words() == second.words()


class Pair:
    """Two books over the same letters."""

    def __init__(self, first, second):
        if first.letters != second.letters:
            raise BadBook("the books have not the same number of letters")
        self.first = first
        self.second = second
        self.letters = first.letters

    def is_apart(self):
        """Tell whether both books start apart."""
        return self.first.starts_apart() and self.second.starts_apart()

    def is_even(self):
        """Tell whether the books have equally many words."""
        return self.first.size == self.second.size

    def turned(self):
        """Return the pair of the turned books."""
        return Pair(self.first.turned(), self.second.turned())

    def swapped(self):
        """Return the pair with the second book first."""
        return Pair(self.second, self.first)


def same_pair(one, other):
    """Tell whether both books are the same in two pairs."""
    return same(one.first, other.first) and same(one.second, other.second)
