"""All errors that the program raises."""


class AlikeError(ValueError):
    """The base class of all errors of the program."""


class BadBook(AlikeError):
    """These values make no book, or these books do not fit together."""


class BadNumber(AlikeError):
    """This value is not a number that may stand here."""


class BadRow(AlikeError):
    """This value is not a row, a text or a tuple of numbers that may stand here."""


class BadLetter(AlikeError):
    """This value is not a letter of the pair."""


class BadRest(AlikeError):
    """This value is not a rest that may stand here."""


class NotApart(AlikeError):
    """A book does not start apart."""


class TooLong(AlikeError):
    """What comes of this is longer than the program goes."""


class BadMachine(AlikeError):
    """These values make no machine, or the machine does not fit."""


class BadPaper(AlikeError):
    """This value is not a right paper."""


class BadText(AlikeError):
    """A line of a text cannot stand there; `line` is its number, counted from 1."""

    def __init__(self, line):
        AlikeError.__init__(self, f"line {line} cannot stand there")
        self.line = line
