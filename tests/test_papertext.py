"""[8.10]: the texts of papers."""

import unittest
from random import Random

from samples import EXAMPLE, FAR, NO_INTEGERS, NO_TUPLES, NOTHING, even_pairs, some_pairs

from alikeread.errors import BadPaper, BadText
from alikeread.papers import paper
from alikeread.papertext import paper_of, paper_text

ROUND = ("round", (0, 59), (7,), 1, 20000)
VALUE = (((("missing",), ("block", (0, 1), (2,)), ROUND), (), (("stops", (3,), (4, 5)),)), 1)
TEXT = "paper 3 1\nstage 3\nmissing\nblock 0 1 / 2\nround 0 59 / 7 1 20000\nstage 0\nstage 1\nstops 3 / 4 5\n"
NUMBERS = {str(number): number for number in range(20001)}
LONG = tuple(range(60)) * 333 + (0,) * 20


def one_item(item):
    return (((item,),), 0)


def plain_numbers(pieces, least, most):
    return all(least <= NUMBERS.get(piece, -1) <= most for piece in pieces)


def plain_item(line):
    """Tell whether a line is that of an item."""
    kind, *pieces = line.split(" ")
    if kind == "missing":
        return not pieces
    if kind not in ("block", "stops", "round") or pieces.count("/") != 1:
        return False
    slash = pieces.index("/")
    first, second = pieces[:slash], pieces[slash + 1:]
    if kind == "round":
        second, ends = second[:-2], second[-2:]
        if len(ends) != 2 or not plain_numbers(ends, 1, 20000):
            return False
    return 1 <= len(first) <= 20000 and 1 <= len(second) <= 20000 and plain_numbers(first + second, 0, 59)


def plain_line(text):
    """Return the number of the first line of a text that cannot stand there, or None."""
    pieces = text.split("\n")
    lines, last = pieces[:-1], pieces[-1]
    at = 0

    def header(name, ranges):
        found = lines[at].split(" ") if at < len(lines) else []
        if found[:1] != [name] or len(found) != len(ranges) + 1:
            return None
        if not all(plain_numbers([piece], low, high) for piece, (low, high) in zip(found[1:], ranges)):
            return None
        return [int(piece) for piece in found[1:]]

    told = header("paper", [(1, 2000), (0, 1999)])
    if told is None or told[1] >= told[0]:
        return 1
    at = 1
    for _ in range(told[0]):
        size = header("stage", [(0, 60)])
        if size is None:
            return at + 1
        at += 1
        for _ in range(size[0]):
            if at >= len(lines) or not plain_item(lines[at]):
                return at + 1
            at += 1
    return None if at == len(lines) and last == "" else at + 1


class TestThereAndBack(unittest.TestCase):

    def test_texts(self):
        self.assertEqual(paper_text(VALUE), TEXT)
        self.assertEqual(paper_of(TEXT), VALUE)

    def test_right_papers(self):
        for pair in even_pairs()[::3] + list(some_pairs(5, 100, 5, 4, True)) + [NOTHING, EXAMPLE]:
            value = paper(pair)
            text = paper_text(value)
            self.assertEqual(paper_of(text), value)
            self.assertTrue(text.startswith(f"paper {len(value[0])} {value[1]}\nstage {pair.letters}\n"))
        self.assertEqual(paper_text(paper(NOTHING)), "paper 1 0\nstage 0\n")
        self.assertTrue(paper_text(paper(EXAMPLE)).startswith("paper 4 2\nstage 2\nblock 0 1 / 0 1\nblock 1 1 / 1\n"))

    def test_form_alone(self):
        # These are right papers of no pair.
        for value in one_item(ROUND), one_item(("block", (59,), (0, 0))), ((((("missing",),) * 60),) * 3, 2):
            self.assertEqual(paper_of(paper_text(value)), value)

    def test_bounds(self):
        self.assertEqual(len(LONG), 20000)
        for value in [
                one_item(("block", LONG, (0,))), one_item(("stops", (0,), LONG)), one_item(("round", LONG, LONG, 1, 1)),
                one_item(("round", (0,), (0,), 20000, 20000)), (((),) * 2000, 1999), (((),), 0),
                ((((("missing",),) * 60),) * 2000, 0)]:
            text = paper_text(value)
            self.assertEqual(paper_of(text), value)
        self.assertEqual(paper_text((((),) * 2000, 1999))[:22], "paper 2000 1999\nstage ")

    def test_numbers_are_written_plainly(self):
        for number in range(60):
            item = ("block", (number,), (59 - number, number))
            text = f"paper 1 0\nstage 1\nblock {number} / {59 - number} {number}\n"
            self.assertEqual((paper_text(one_item(item)), paper_of(text)), (text, one_item(item)))


class TestBadPapers(unittest.TestCase):

    def check(self, value):
        with self.assertRaises(BadPaper):
            paper_text(value)

    def test_whole_values(self):
        stages = VALUE[0]
        for value in NO_TUPLES + NO_INTEGERS + [
                (), stages, (stages,), (stages, 1, 1), [stages, 1], (list(stages), 1), ((), 0), (((),) * 2001, 0),
                (stages, 3), (stages, -1), (stages, FAR), (1, stages), "paper 1 0\nstage 0\n", {0: stages, 1: 1}]:
            self.check(value)
        for value in NO_INTEGERS:
            self.check((stages, value))

    def test_stages(self):
        for value in NO_INTEGERS + NO_TUPLES + [[], [("missing",)], (("missing",),) * 61, ("missing",), "missing"]:
            if value != ():
                self.check((((), value), 0))
                self.check(((value, ()), 1))

    def test_items(self):
        wrong = NO_INTEGERS + NO_TUPLES + [
            (), ("missing", ()), ("missing", (0,), (0,)), ("Missing",), ("",), ("block",), ("block", (0,)), ["missing"],
            ("block", (0,), (0,), 1), ("block", (0,), (0,), 1, 1), ("stops", (0,), (0,), 1, 1), ("round", (0,), (0,)),
            ("round", (0,), (0,), 1), ("round", (0,), (0,), 1, 1, 1), (b"block", (0,), (0,)), (0, (0,), (0,)),
            (("block",), (0,), (0,)), ("other", (0,), (0,)), ("block ", (0,), (0,)), ("block\n", (0,), (0,))]
        for item in wrong:
            self.check(one_item(item))
            self.check((((("missing",), item),), 0))

    def test_rows(self):
        wrong = [value for value in NO_TUPLES] + [(), (60,), (0, 60), (0, FAR), [0], LONG + (0,), (0, True), "0"]
        for row in wrong:
            for kind in ("block", "stops"):
                self.check(one_item((kind, row, (0,))))
                self.check(one_item((kind, (0,), row)))
            self.check(one_item(("round", row, (0,), 1, 1)))
            self.check(one_item(("round", (0,), row, 1, 1)))

    def test_ends(self):
        for value in NO_INTEGERS + [0, -1, 20001, FAR, -FAR]:
            self.check(one_item(("round", (0,), (0,), value, 1)))
            self.check(one_item(("round", (0,), (0,), 1, value)))


class TestBadTexts(unittest.TestCase):

    def check(self, text):
        plain = plain_line(text)
        if plain is None:
            self.assertEqual(paper_text(paper_of(text)), text)
            return
        with self.assertRaises(BadText) as caught:
            paper_of(text)
        self.assertEqual(caught.exception.line, plain, text)
        self.assertIs(type(caught.exception.line), int)

    def line_of(self, text):
        with self.assertRaises(BadText) as caught:
            paper_of(text)
        return caught.exception.line

    def test_signs_left_out_doubled_and_changed(self):
        for at in range(len(TEXT)):
            self.check(TEXT[:at] + TEXT[at + 1:])
            self.check(TEXT[:at + 1] + TEXT[at:])
            self.check(TEXT[:at])
            self.check(TEXT[:at] + TEXT[at + 1:at + 2] + TEXT[at:at + 1] + TEXT[at + 2:])
            for sign in "0 1\n/9x-+_.\t\r\u0661\u00b2\u00a0":
                self.check(TEXT[:at] + sign + TEXT[at + 1:])
                self.check(TEXT[:at] + sign + TEXT[at:])

    def test_lines_left_out_doubled_and_exchanged(self):
        lines = TEXT.split("\n")[:-1]
        for at in range(len(lines)):
            for changed in (
                    lines[:at] + lines[at + 1:], lines[:at + 1] + lines[at:], lines[:at] + [""] + lines[at:],
                    lines[:at] + lines[at + 1:at + 2] + lines[at:at + 1] + lines[at + 2:], lines[:at]):
                text = "".join(line + "\n" for line in changed)
                self.check(text)
                self.check(text[:-1])
                self.check(text + "missing\n")
                self.check(text + "x")

    def test_lines_at_each_place(self):
        wrong = [
            "", " ", "paper", "paper 1 0", "paper 3", "paper 3 1 ", " paper 3 1", "paper 3  1", "paper 0 0", "paper 3 3",
            "paper 2001 0", "paper 03 1", "paper 3 01", "paper -3 1", "paper 3 -1", "Paper 3 1", "paper 3 1 1", "stage",
            "stage 3", "stage 0", "stage 61", "stage 60", "stage 03", "stage  3", "stage 3 ", "stage -1", "stage 3 3",
            "missing", "missing ", " missing", "missing 1", "Missing", "block", "block /", "block 0 /", "block / 0",
            "block 0 / 0", "block 0 0", "block 0/0", "block 0 / 0 ", "block 0  / 0", "block 0 / 60", "block 60 / 0",
            "block 00 / 0", "block 0 / 0 / 0", "block 0 / 0 1 / 2", "block 0 / / 0", "stops 0 / 0", "stops 0 / 0 1 1",
            "round 0 / 0", "round 0 / 0 1", "round 0 / 0 1 1", "round 0 / 0 0 1", "round 0 / 0 1 0", "round 0 / 1 1",
            "round 0 / 0 20000 1", "round 0 / 0 20001 1", "round 0 / 0 1 20001", "round 0 / 0 01 1", "round 0 / 0 1 / 1",
            "round / 0 1 1", "round 0 0 1 / 1", "block 0 / 0 x", "blocks 0 / 0", "block 1e1 / 0", "block 0 / " + "9" * 5000]
        lines = TEXT.split("\n")[:-1]
        for at in range(len(lines) + 1):
            for line in wrong:
                self.check("".join(one + "\n" for one in lines[:at] + [line] + lines[at + 1:]))
                self.check("".join(one + "\n" for one in lines[:at] + [line] + lines[at:]))

    def test_some_lines(self):
        self.assertEqual(self.line_of(""), 1)
        self.assertEqual(self.line_of("\n"), 1)
        self.assertEqual(self.line_of("paper 1 0"), 1)
        self.assertEqual(self.line_of("paper 1 0\n"), 2)
        self.assertEqual(self.line_of("paper 1 0\nstage 1\n"), 3)
        self.assertEqual(self.line_of("paper 1 0\nstage 0"), 2)
        self.assertEqual(self.line_of("paper 1 0\nstage 0\n\n"), 3)
        self.assertEqual(self.line_of("paper 2 0\nstage 1\nmissing\nmissing\n"), 4)
        self.assertEqual(self.line_of(TEXT[:-1]), 8)
        self.assertEqual(self.line_of(TEXT + "x"), 9)
        self.assertEqual(self.line_of(TEXT + TEXT), 9)
        # Numbers of more figures than Python's int takes.
        long = "1" * 5000
        for text in f"paper {long} 0\n", f"paper 1 {long}\n", f"paper {long}":
            self.assertEqual(self.line_of(text), 1)
        self.assertEqual(self.line_of(f"paper 1 0\nstage {long}\n"), 2)
        for line in f"round 0 / 0 {long} 1", f"round 0 / 0 1 {long}", f"block {long} / 0", f"stops 0 / {long}":
            self.assertEqual(self.line_of(f"paper 1 0\nstage 1\n{line}\n"), 3)

    def test_rows_that_are_too_long(self):
        many = " ".join(["0"] * 20001)
        for line in f"block {many} / 0", f"block 0 / {many}", f"round 0 / {many} 1 1", f"stops {many} / {many}":
            self.assertEqual(self.line_of(f"paper 1 0\nstage 2\nmissing\n{line}\n"), 4)
        fits = " ".join(["0"] * 20000)
        found = paper_of(f"paper 1 0\nstage 1\nround {fits} / {fits} 1 1\n")
        self.assertEqual(found, one_item(("round", (0,) * 20000, (0,) * 20000, 1, 1)))
        self.assertEqual(self.line_of("paper 1 0\nstage 61\n" + "missing\n" * 61), 2)
        self.assertEqual(self.line_of("paper 2001 0\n" + "stage 0\n" * 2001), 1)

    def test_some_texts(self):
        random = Random(1)
        signs = ["paper", "stage", "missing", "block", "round", " ", "\n", "/", "0", "1", "2", "60", "\n", " "]
        for _ in range(2000):
            self.check("".join(random.choice(signs) for _ in range(random.randint(0, 25))))
            at = random.randrange(len(TEXT))
            end = random.randrange(at, len(TEXT))
            self.check(TEXT[:at] + TEXT[end:])


if __name__ == "__main__":
    unittest.main()
