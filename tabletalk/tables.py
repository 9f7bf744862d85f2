"""Values, variables, scopes, rows, tables and messages."""

from tabletalk.checks import is_ascending, is_integer, is_tuple

LEAST_VALUES = 2
MOST_VALUES = 3
MOST_VARIABLE = 5
MOST_IN_SCOPE = 3
MOST_TABLE_COST = 100
MOST_COUNT = 1000000
MOST_LEAST = 10000


def is_number_of_values(value):
    """True if there can be so many values."""
    return is_integer(value, LEAST_VALUES, MOST_VALUES)


def is_some(value):
    """True if the value is some variables: an ascending tuple of them."""
    if not isinstance(value, tuple):
        return False
    return all([is_integer(item, 0, MOST_VARIABLE) for item in value]) and is_ascending(value)


def is_scope(value):
    """True if the value is a scope."""
    return is_some(value) and len(value) <= MOST_IN_SCOPE


def is_row(values, some, value):
    """True if the value is a row of some variables."""
    return is_tuple(value, len(some), len(some)) and all([is_integer(item, 0, values - 1) for item in value])


def has_ascending_rows(items):
    """True if the rows with which the items begin are different and ascend."""
    return is_ascending([item[0] for item in items])


def is_priced_row(values, scope, value):
    """True if the value is a pair of a row of the scope and a cost."""
    return is_tuple(value, 2, 2) and is_row(values, scope, value[0]) and is_integer(value[1], 0, MOST_TABLE_COST)


def is_table(values, scope, value):
    """True if the value is a table of the scope."""
    if not isinstance(value, tuple):
        return False
    return all([is_priced_row(values, scope, item) for item in value]) and has_ascending_rows(value)


def is_told_row(values, some, value):
    """True if the value is a triple of a row of some variables, a count and a least cost."""
    if not is_tuple(value, 3, 3):
        return False
    row, count, least = value
    return is_row(values, some, row) and is_integer(count, 1, MOST_COUNT) and is_integer(least, 0, MOST_LEAST)


def is_message(values, some, value):
    """True if the value is a message over some variables."""
    if not isinstance(value, tuple):
        return False
    return all([is_told_row(values, some, item) for item in value]) and has_ascending_rows(value)


def part(some, row, kept):
    """The part of a row of some variables for kept ones of them."""
    return tuple([row[some.index(variable)] for variable in kept])


def zeros(some):
    """The row of some variables that has only zeros."""
    return tuple([0 for _ in some])


def all_rows(values, some):
    """All rows of some variables, ascending."""
    found = [()]
    for _ in some:
        found = [row + (value,) for row in found for value in range(values)]
    return found
