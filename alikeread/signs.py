"""Words written as strings, one sign to a letter.

Python puts strings together, compares them and looks them up in dicts much
faster than tuples, which matters where long words are handled many times.
"""

SIGNS = "0123456789ABCDEFGHIJKLMNOPQRSTUVWXYZabcdefghijklmnopqrstuvwx"


def signs_of(word):
    """Return the string of a tuple of numbers below 60."""
    return "".join([SIGNS[letter] for letter in word])


def word_of(signs):
    """Return the tuple that a string tells."""
    letter_by_sign = {sign: letter for letter, sign in enumerate(SIGNS)}
    return tuple([letter_by_sign[sign] for sign in signs])
