"""Messages of tables, their projections, joins, restrictions and totals."""

from tabletalk.checks import is_integer, require
from tabletalk.errors import NotPossible, TooLarge
from tabletalk.tables import MOST_COUNT, MOST_LEAST, is_message, is_number_of_values, is_scope, is_some, is_table, part


def as_message(values, scope, table):
    """The message of a table."""
    require(is_number_of_values(values), "values")
    require(is_scope(scope), "scope")
    require(is_table(values, scope, table), "table")
    return told(table)


def project(values, some, message, kept):
    """The projection of a message over some variables to kept ones of them."""
    check_message(values, some, message)
    require(is_some_of(some, kept), "kept")
    return bounded(projected(some, message, kept))


def join(values, some, message, others, other):
    """The join of a message over some variables with the other one over others."""
    check_two_messages(values, some, message, others, other)
    return bounded(joined(some, message, others, other))


def early(values, some, message, others, other, kept):
    """The projection of a join to kept variables, with projections done early."""
    check_two_messages(values, some, message, others, other)
    require(is_some_of(united(some, others), kept), "kept")
    first = tuple([variable for variable in some if variable in kept or variable in others])
    second = tuple([variable for variable in others if variable in kept or variable in some])
    # Nothing is bounded on the way: what comes there can be greater than what is returned.
    both = joined(first, projected(some, message, first), second, projected(others, other, second))
    return bounded(projected(united(first, second), both, kept))


def restrict(values, some, message, variable, value):
    """The restriction of a message by a variable and a value."""
    check_message(values, some, message)
    require(is_some_of(some, (variable,)), "variable")
    require(is_integer(value, 0, values - 1), "value")
    return tuple([item for item in message if part(some, item[0], (variable,)) == (value,)])


def total(values, some, message):
    """The pair of the sum of the counts of a message and the least of its costs."""
    check_message(values, some, message)
    if not message:
        raise NotPossible("rows")
    return sum([count for _, count, _ in message]), min([least for _, _, least in message])


def check_message(values, some, message):
    """Raises BadValue unless the message is one over some variables."""
    require(is_number_of_values(values), "values")
    require(is_some(some), "some")
    require(is_message(values, some, message), "message")


def check_two_messages(values, some, message, others, other):
    """Raises BadValue unless both messages are messages over their variables."""
    check_message(values, some, message)
    require(is_some(others), "others")
    require(is_message(values, others, other), "other")


def is_some_of(some, kept):
    """True if the value is an ascending tuple of variables that are among some."""
    return is_some(kept) and all([variable in some for variable in kept])


def bounded(message):
    """The message itself, if its counts and costs are those that a message can have."""
    for _, count, least in message:
        if count > MOST_COUNT or least > MOST_LEAST:
            raise TooLarge("message")
    return message


def united(some, others):
    """The variables that are among some, among others, or among both."""
    return tuple(sorted(set(some) | set(others)))


def told(table):
    """What as_message returns, without checks."""
    return tuple([(row, 1, cost) for row, cost in table])


def projected(some, message, kept):
    """What project returns, without checks and bounds."""
    counts = {}
    leasts = {}
    for row, count, least in message:
        gathered = part(some, row, kept)
        counts[gathered] = counts.get(gathered, 0) + count
        leasts[gathered] = min(leasts.get(gathered, least), least)
    return tuple([(row, counts[row], leasts[row]) for row in sorted(counts)])


def joined(some, message, others, other):
    """What join returns, without checks and bounds."""
    shared = tuple([variable for variable in some if variable in others])
    both = united(some, others)
    meeting = {}
    for item in other:
        meeting.setdefault(part(others, item[0], shared), []).append(item)
    found = []
    for row, count, least in message:
        for other_row, other_count, other_least in meeting.get(part(some, row, shared), []):
            # Both rows agree in the shared variables, so it does not matter which one gives their values.
            whole = part(some + others, row + other_row, both)
            found.append((whole, count * other_count, least + other_least))
    return tuple(sorted(found))
