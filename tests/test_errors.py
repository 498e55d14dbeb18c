"""[0.5] The errors."""

import unittest

from alikeread import errors
from alikeread.booktext import book_of

NAMES = [
    "BadBook", "BadNumber", "BadRow", "BadLetter", "BadRest", "NotApart", "TooLong", "BadMachine",
    "BadPaper", "BadText",
]


class TestErrors(unittest.TestCase):

    def test_base_class_is_a_value_error(self):
        self.assertEqual(errors.AlikeError.__bases__, (ValueError,))
        self.assertEqual(errors.AlikeError.__module__, "alikeread.errors")

    def test_each_error_stands_directly_below_the_base_class(self):
        for name in NAMES:
            found = getattr(errors, name)
            self.assertEqual(found.__bases__, (errors.AlikeError,), name)
            self.assertEqual(found.__module__, "alikeread.errors", name)
            self.assertEqual(found.__name__, name)

    def test_no_error_is_a_subclass_of_another_one(self):
        for one in NAMES:
            for other in NAMES:
                below = issubclass(getattr(errors, one), getattr(errors, other))
                self.assertEqual(below, one == other, (one, other))

    def test_there_are_no_other_errors(self):
        found = [name for name, value in vars(errors).items() if isinstance(value, type)]
        self.assertEqual(sorted(found), sorted(NAMES + ["AlikeError"]))

    def test_bad_text_has_its_line(self):
        with self.assertRaises(errors.BadText) as caught:
            book_of("book 1 1\n1\n")
        self.assertEqual(caught.exception.line, 2)
        self.assertIs(type(caught.exception.line), int)


if __name__ == "__main__":
    unittest.main()
