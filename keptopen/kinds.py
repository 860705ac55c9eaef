"""The kinds of values: integers, numbers, names, and sets."""

LETTERS = "abcdefghijklmnopqrstuvwxyz"


def is_integer(thing):
    """Whether any value is an integer; a bool is none."""
    return isinstance(thing, int) and not isinstance(thing, bool)


def is_number(thing):
    """Whether any value is an integer that is at least 0."""
    return is_integer(thing) and thing >= 0


def is_name(thing):
    """Whether any value is a string of one to eight lowercase letters."""
    return isinstance(thing, str) and 1 <= len(thing) <= 8 and all([letter in LETTERS for letter in thing])


def is_chests(thing):
    """Whether any value is a set of one or more names."""
    return is_names(thing) and len(thing) > 0


def is_names(thing):
    """Whether any value is a set of names, perhaps of none."""
    if not isinstance(thing, tuple) or not all([is_name(name) for name in thing]):
        return False
    return all([thing[k] < thing[k + 1] for k in range(len(thing) - 1)])


def is_bits(thing, many):
    """Whether any value is a tuple of so many integers that are 0 or 1."""
    return isinstance(thing, tuple) and len(thing) == many and all([is_bit(bit) for bit in thing])


def is_bit(thing):
    """Whether any value is one of the integers 0 and 1."""
    return is_number(thing) and thing <= 1


def is_odd(number):
    """Whether an integer is odd."""
    return (number & 1) == 1


def is_pair(thing):
    """Whether any value is a tuple of two elements."""
    return isinstance(thing, tuple) and len(thing) == 2


def is_triple(thing):
    """Whether any value is a tuple of three elements."""
    return isinstance(thing, tuple) and len(thing) == 3
