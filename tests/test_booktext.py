"""[1.10] and [1.11]: the texts of books and of pairs."""

import re
import unittest

from alikeread.books import Book, Pair, same, same_pair
from alikeread.booktext import book_of, book_text, pair_of, pair_text
from alikeread.errors import BadText
from samples import small_books

EXAMPLE = "book 2 2\n0 1\n1\n"
PAIR = "pair\n" + EXAMPLE + "book 2 1\n1 1\n"
NUMBER = "(0|[1-9][0-9]*)"


def lines_of(text):
    """Return the lines of a text with their newlines."""
    return [line for line in re.split(r"(?<=\n)", text) if line]


def numbers_of(pattern, line):
    """Return the numbers of a line of a form, or None if it is not of this form."""
    if re.fullmatch(pattern, line) is None:
        return None
    return [int(number) for number in re.findall("[0-9]+", line)]


def fault_of_book(lines, at, letters=None):
    """Return the place of the first bad line of a book, or None, and the place behind the book."""
    header = numbers_of(f"book {NUMBER} {NUMBER}\n", lines[at]) if at < len(lines) else None
    if header is None or max(header) > 60 or letters not in (None, header[0]):
        return at, at, None
    for place in range(at + 1, at + 1 + header[1]):
        word = numbers_of(f"{NUMBER}( {NUMBER})*\n", lines[place]) if place < len(lines) else None
        if word is None or max(word) >= header[0] or len(word) > 5000:
            return place, place, None
    return None, at + 1 + header[1], header[0]


def fault_of_text(text, is_pair):
    """Return the number of the first line that cannot stand there, or None."""
    lines = lines_of(text)
    at, letters = 0, None
    if is_pair:
        if lines[:1] != ["pair\n"]:
            return 1
        bad, at, letters = fault_of_book(lines, 1)
        if bad is not None:
            return bad + 1
    bad, at, _ = fault_of_book(lines, at, letters)
    if bad is not None:
        return bad + 1
    return at + 1 if at < len(lines) else None


def changed_texts(text):
    """Give texts that come of a text if a sign or a line is left out, doubled, replaced or put in."""
    signs = "0169 \nbpx-+/_.\t\r\0\x0b\x0c\x1c\x85\xa0\u00b2\u0661\u2028\ud800"
    for at in range(len(text) + 1):
        yield text[:at]
        yield text[at:]
        yield text[:at] + text[at + 1:]
        yield text[:at] + text[at:at + 1] * 2 + text[at + 1:]
        yield text[:at] + text[at:at + 2][::-1] + text[at + 2:]
        for sign in signs:
            yield text[:at] + sign + text[at + 1:]
            yield text[:at] + sign + text[at:]
    lines = lines_of(text)
    for at in range(len(lines) + 1):
        yield "".join(lines[:at] + lines[at + 1:])
        yield "".join(lines[:at] + lines[at:at + 1] * 2 + lines[at + 1:])
        yield "".join(lines[:at] + lines[at:at + 2][::-1] + lines[at + 2:])


class TextCase(unittest.TestCase):

    def line_of(self, reader, text):
        """Return the line that a reader tells of a bad text."""
        with self.assertRaises(BadText, msg=repr(text[:200])) as caught:
            reader(text)
        self.assertIs(type(caught.exception.line), int)
        return caught.exception.line

    def check_cases(self, reader, cases):
        for text, line in cases:
            self.assertEqual(self.line_of(reader, text), line, repr(text[:200]))

    def check_changed(self, text, reader, writer, is_pair):
        """Compare what a reader tells of changed texts with what the line by line look tells."""
        told = set()
        for changed in changed_texts(text):
            line = fault_of_text(changed, is_pair)
            if line is None:
                self.assertEqual(writer(reader(changed)), changed)
            else:
                self.assertEqual(self.line_of(reader, changed), line, repr(changed))
            told.add(line)
        self.assertEqual(told, {None, *range(1, len(lines_of(text)) + 2)})


class TestBookText(TextCase):

    def test_example(self):
        self.assertEqual(book_text(Book(2, [(0, 1), (1,)])), EXAMPLE)
        self.assertTrue(same(book_of(EXAMPLE), Book(2, [(0, 1), (1,)])))

    def test_without_words(self):
        self.assertEqual(book_text(Book(0, [])), "book 0 0\n")
        self.assertEqual(book_text(Book(60, [])), "book 60 0\n")
        self.assertTrue(same(book_of("book 0 0\n"), Book(0, [])))
        self.assertTrue(same(book_of("book 60 0\n"), Book(60, [])))

    def test_numbers_of_two_figures(self):
        book = Book(60, [(59, 0, 10), (9,)])
        self.assertEqual(book_text(book), "book 60 2\n59 0 10\n9\n")
        self.assertTrue(same(book_of("book 60 2\n59 0 10\n9\n"), book))

    def test_small_books_come_back(self):
        for book in small_books(2, 2, 3):
            text = book_text(book)
            self.assertIsNone(fault_of_text(text, False))
            self.assertTrue(same(book_of(text), book))

    def test_largest_book_comes_back(self):
        book = Book(60, [(first,) + (59,) * 4999 for first in range(60)])
        text = book_text(book)
        self.assertEqual(len(lines_of(text)), 61)
        self.assertTrue(same(book_of(text), book))

    def test_first_line(self):
        lines = ["", "book", "book 2", "book 2 ", "book  2 0", "book 2  0", "book 2 0 ", " book 2 0", "book 2 0 0",
                 "Book 2 0", "boo 2 0", "bookk 2 0", "book2 0", "book 02 0", "book 2 00", "book +2 0", "book -2 0",
                 "book 61 0", "book 60 61", "book 2 -1", "book 2.0 0", "book two 0", "2 0", "pair", "book\t2\t0",
                 "book 1_0 0", "book \u0662 0", "book 2 0\r", "book 2 \u00b2", "book 100 0", "book 2 100",
                 "book " + "9" * 10000 + " 0", "book 2 " + "9" * 10000, "book " + "0" * 10000 + " 0"]
        for line in lines:
            self.assertEqual(self.line_of(book_of, line + "\n"), 1, line[:30])
            self.assertEqual(self.line_of(book_of, line + "\n0 1\n1\n"), 1, line[:30])

    def test_lines_of_words(self):
        lines = ["", " ", "0 ", " 0", "0  1", "00", "01", "0 01", "2", "0 2", "1 0 10", "-1", "-0", "+1", "1.0", "x",
                 "0,1", "0\t1", "0\r", "1_0", "\u0661", "\u00b9", "9" * 10000, "0" * 10000, "(0, 1)", "book 2 2"]
        for line in lines:
            self.assertEqual(self.line_of(book_of, f"book 2 1\n{line}\n"), 2, line[:30])
            self.assertEqual(self.line_of(book_of, f"book 2 3\n0 1\n{line}\n1\n"), 3, line[:30])
            self.assertEqual(self.line_of(book_of, f"book 2 3\n0 1\n1\n{line}\n"), 4, line[:30])

    def test_letters_in_their_range(self):
        for letters in range(1, 61):
            text = f"book {letters} 2\n0\n{letters - 1} 0\n"
            self.assertEqual(book_of(text).words(), [(0,), (letters - 1, 0)])
            self.assertEqual(self.line_of(book_of, f"book {letters} 2\n0\n{letters} 0\n"), 3)
        self.check_cases(book_of, [("book 0 1\n0\n", 2), ("book 0 1\n\n", 2), ("book 0 1\n", 2)])

    def test_lengths_of_words(self):
        longest = " ".join(["0"] * 5000)
        self.assertEqual(book_of(f"book 1 2\n0\n{longest}\n").words(), [(0,), (0,) * 5000])
        self.assertEqual(self.line_of(book_of, f"book 1 2\n0\n{longest} 0\n"), 3)
        self.assertEqual(self.line_of(book_of, f"book 1 2\n{longest} 0\n0\n"), 2)

    def test_numbers_of_words(self):
        self.assertEqual(book_of("book 1 60\n" + "0\n" * 60).size, 60)
        self.assertEqual(self.line_of(book_of, "book 1 61\n" + "0\n" * 61), 1)
        self.assertEqual(self.line_of(book_of, "book 1 60\n" + "0\n" * 59), 61)
        self.assertEqual(self.line_of(book_of, "book 1 60\n" + "0\n" * 61), 62)

    def test_ends(self):
        self.check_cases(book_of, [
            ("", 1), ("\n", 1), ("book 2 2", 1), ("book 2 2\n", 2), ("book 2 2\n0 1", 2), ("book 2 2\n0 1\n", 3),
            ("book 2 2\n0 1\n1", 3), ("book 2 2\n0 1\n1\n\n", 4), ("book 2 2\n0 1\n1\n1", 4),
            ("book 2 2\n0 1\n1\n ", 4), ("book 2 2\n0 1\n1\n1\n", 4), ("book 2 2\n0 1\n1\nx\ny\n", 4),
            ("book 0 0", 1), ("book 0 0\n\n", 2), ("book 0 0\n0\n", 2), ("book 0 0\nx", 2),
            (EXAMPLE + EXAMPLE, 4), (PAIR, 1), ("book 2 2\r\n0 1\r\n1\r\n", 1), ("book 2 2\n0 1\r\n1\n", 2),
        ])

    def test_first_bad_line_is_told(self):
        self.check_cases(book_of, [("book 2 2\n2\n3\n", 2), ("book 61 2\n2\n3", 1), ("book 2 3\n0\n2\n", 3)])

    def test_changed_texts(self):
        self.check_changed(EXAMPLE, book_of, book_text, False)
        self.check_changed("book 12 3\n10 1\n1\n0 11\n", book_of, book_text, False)


class TestPairText(TextCase):

    def test_text(self):
        pair = Pair(Book(2, [(0, 1), (1,)]), Book(2, [(1, 1)]))
        self.assertEqual(pair_text(pair), PAIR)
        self.assertIsInstance(pair_of(PAIR), Pair)
        self.assertTrue(same_pair(pair_of(PAIR), pair))

    def test_without_words(self):
        pair = Pair(Book(0, []), Book(0, []))
        self.assertEqual(pair_text(pair), "pair\nbook 0 0\nbook 0 0\n")
        self.assertTrue(same_pair(pair_of("pair\nbook 0 0\nbook 0 0\n"), pair))

    def test_small_pairs_come_back(self):
        books = list(small_books(2, 2, 2))
        for first in books:
            for second in books:
                pair = Pair(first, second)
                text = pair_text(pair)
                self.assertIsNone(fault_of_text(text, True))
                self.assertTrue(same_pair(pair_of(text), pair))

    def test_largest_pair_comes_back(self):
        book = Book(60, [(first,) + (59,) * 4999 for first in range(60)])
        pair = Pair(book, book.turned())
        self.assertTrue(same_pair(pair_of(pair_text(pair)), pair))

    def test_first_line(self):
        rest = PAIR[len("pair\n"):]
        for line in ["", " ", "Pair", "pai", "pairr", "pair ", " pair", "pair 2", "ppair", "pair\r", "book 2 2"]:
            self.assertEqual(self.line_of(pair_of, line + "\n" + rest), 1)
        self.assertEqual(self.line_of(pair_of, rest), 1)

    def test_other_number_of_letters_in_the_second_book(self):
        self.check_cases(pair_of, [
            ("pair\nbook 2 2\n0 1\n1\nbook 3 1\n1 1\n", 5), ("pair\nbook 2 2\n0 1\n1\nbook 1 1\n0 0\n", 5),
            ("pair\nbook 0 0\nbook 1 0\n", 3), ("pair\nbook 60 0\nbook 61 0\n", 3), ("pair\nbook 1 0\nbook 01 0\n", 3),
            ("pair\nbook 2 0\nbook 3 1\n9\n", 3), ("pair\nbook 2 0\nbook 3 1", 3), ("pair\nbook 2 0\nbook 3 1\n", 3),
        ])

    def test_ends(self):
        self.check_cases(pair_of, [
            ("", 1), ("\n", 1), ("pair", 1), ("pair\n", 2), ("pair\n\n", 2), ("pair\nbook 2 1", 2),
            ("pair\nbook 2 1\n", 3), ("pair\nbook 2 1\n1", 3), ("pair\nbook 2 1\n1\n", 4),
            ("pair\nbook 2 1\n1\nbook 2 1", 4), ("pair\nbook 2 1\n1\nbook 2 1\n", 5),
            ("pair\nbook 2 1\n1\nbook 2 1\n1", 5), ("pair\nbook 2 1\n1\nbook 2 1\n1\n\n", 6),
            ("pair\nbook 2 1\n1\nbook 2 1\n1\n1\n", 6), ("pair\nbook 2 1\n1\nbook 2 1\n1\nx", 6),
            (PAIR + EXAMPLE, 7), (PAIR + PAIR, 7), ("pair\nbook 2 2\n0 1\nbook 2 1\n1 1\n", 4),
            ("pair\nbook 2 1\n0 1\n1\nbook 2 1\n1 1\n", 4), ("pair\nbook 0 0\nbook 0 0", 3),
        ])

    def test_words_in_both_books(self):
        self.check_cases(pair_of, [
            ("pair\nbook 2 1\n2\nbook 2 1\n2\n", 3), ("pair\nbook 2 1\n1\nbook 2 1\n2\n", 5),
            ("pair\nbook 2 1\n01\nbook 3 1\n2\n", 3), ("pair\nbook 2 61\n", 2), ("pair\nbook 2 0\nbook 2 61\n", 3),
        ])

    def test_changed_texts(self):
        self.check_changed(PAIR, pair_of, pair_text, True)
        self.check_changed("pair\nbook 11 1\n10\nbook 11 2\n0 1\n1\n", pair_of, pair_text, True)


if __name__ == "__main__":
    unittest.main()
