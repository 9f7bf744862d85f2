"""What all checks of arguments are made of."""

from tabletalk.errors import BadValue


def require(holds, name):
    """Raises BadValue with the name of an argument unless what is required of it holds."""
    if not holds:
        raise BadValue(name)


def is_integer(value, low, high):
    """True if the value is an integer from low to high."""
    # isinstance counts True and False as integers, which they are not here.
    if isinstance(value, bool) or not isinstance(value, int):
        return False
    return low <= value <= high


def is_tuple(value, low, high):
    """True if the value is a tuple of low to high items."""
    return isinstance(value, tuple) and low <= len(value) <= high


def is_word(value, words):
    """True if the value is one of these words."""
    return isinstance(value, str) and value in words


def is_ascending(items):
    """True if each item is less than the next one; the items are known to be comparable."""
    return all([one < other for one, other in zip(items, items[1:])])
