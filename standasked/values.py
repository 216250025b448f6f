"""What all modules ask of single values."""

HIGHEST = 65535


def is_integer(thing):
    # True and False are ints for Python, but no integers here.
    return isinstance(thing, int) and not isinstance(thing, bool)


def is_number(thing):
    return is_integer(thing) and 0 <= thing <= HIGHEST


def is_between(thing, low, high):
    return is_number(thing) and low <= thing <= high


def is_row(thing, length):
    return isinstance(thing, tuple) and len(thing) == length
