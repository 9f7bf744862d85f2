"""Questions, each a variable with a value: what would be, and what is possible, sure and implied."""

from tabletalk.checks import is_integer, require
from tabletalk.costs import value_counts
from tabletalk.errors import NotPossible
from tabletalk.joins import is_some_of
from tabletalk.solutions import all_variables, check_tables, solutions


def what_if(graph, tables, variable, value):
    """The pair of how many solutions have the value and the least cost of these, or None if there are none."""
    check_question(graph, tables, variable, value)
    count, least = value_counts(graph, tables, variable)[value]
    return (count, least) if count else None


def sure_values(graph, tables):
    """The sure pairs of a variable and a value, ascending."""
    check_tables(graph, tables)
    rows = solution_rows(graph, tables)
    if not rows:
        raise NotPossible("solutions")
    return agreed(graph, rows)


def implied(graph, tables, variable, value):
    """The pairs that the question implies, ascending, or None if no solution has the value."""
    check_question(graph, tables, variable, value)
    rows, _ = divided(graph, tables, variable, value)
    return agreed(graph, rows) if rows else None


def possible_values(graph, tables, variable):
    """The values that the variable has in some solution, ascending."""
    told = value_counts(graph, tables, variable)
    return tuple([value for value, (count, _) in enumerate(told) if count])


def check_question(graph, tables, variable, value):
    """Raises BadValue unless these are a graph, tables of it and a question."""
    check_tables(graph, tables)
    check_variable_value(graph, variable, value)


def check_variable_value(graph, variable, value):
    """Raises BadValue unless these are a variable of the graph and one of its values."""
    require(is_some_of(all_variables(graph), (variable,)), "variable")
    require(is_integer(value, 0, graph[0] - 1), "value")


def solution_rows(graph, tables):
    """The rows of all solutions, ascending."""
    return [row for row, _, _ in solutions(graph, tables)]


def divided(graph, tables, variable, value):
    """The pair of the rows of the solutions that have the value for the variable, and of those that do not."""
    at = all_variables(graph).index(variable)
    rows = solution_rows(graph, tables)
    return [row for row in rows if row[at] == value], [row for row in rows if row[at] != value]


def agreed(graph, rows):
    """The pairs of a variable and the value that all of these full rows, at least one, have for it, ascending."""
    first = rows[0]
    return tuple([(variable, first[at]) for at, variable in enumerate(all_variables(graph))
                  if all([row[at] == first[at] for row in rows])])
