"""What kind of value something is, for values of any kind."""


def is_count(value):
    """Tell whether a value is an integer from 0 on."""
    # Python counts True and False among the integers, the program does not.
    return isinstance(value, int) and not isinstance(value, bool) and value >= 0


def is_below(value, end):
    """Tell whether a value is an integer from 0 on that is less than `end`."""
    return is_count(value) and value < end


def are_below(value, end):
    """Tell whether a value is a tuple of integers from 0 on that are less than `end`."""
    if not isinstance(value, tuple):
        return False
    # Written out instead of asking `is_below` for each item, since words may be long.
    return all([
        isinstance(item, int) and item is not True and item is not False and 0 <= item < end for item in value])
