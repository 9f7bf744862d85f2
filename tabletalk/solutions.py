"""Graphs, their tables and their solutions."""

from tabletalk.checks import is_ascending, is_integer, is_tuple, require
from tabletalk.joins import joined, told, united
from tabletalk.tables import is_number_of_values, is_row, is_scope, is_table, part

MOST_NODES = 5


def is_graph(value):
    """True if the value is a graph."""
    if not is_tuple(value, 3, 3):
        return False
    values, scopes, edges = value
    return is_number_of_values(values) and are_scopes(scopes) and are_edges(len(scopes), edges)


def are_tables(graph, value):
    """True if the value is tables of the graph, which is not checked."""
    values, scopes, _ = graph
    if not is_tuple(value, len(scopes), len(scopes)):
        return False
    return all([is_table(values, scope, table) for scope, table in zip(scopes, value)])


def variables(graph):
    """The tuple of the variables of the graph."""
    require(is_graph(graph), "graph")
    return all_variables(graph)


def count_solutions(graph, tables):
    """The number of the solutions."""
    check_tables(graph, tables)
    return len(solutions(graph, tables))


def nth_solution(graph, tables, index):
    """The pair of the row of the solution with the index, and its cost."""
    check_tables(graph, tables)
    found = solutions(graph, tables)
    require(is_integer(index, 0, len(found) - 1), "index")
    row, _, cost = found[index]
    return row, cost


def index_of_solution(graph, tables, row):
    """The index of the solution with the row, or None if the row is no solution."""
    check_row(graph, tables, row)
    rows = [item[0] for item in solutions(graph, tables)]
    return rows.index(row) if row in rows else None


def rejecting(graph, tables, row):
    """The first node that rejects the row, or None."""
    check_row(graph, tables, row)
    some = all_variables(graph)
    for node, scope in enumerate(graph[1]):
        if part(some, row, scope) not in [item[0] for item in tables[node]]:
            return node
    return None


def check_tables(graph, tables):
    """Raises BadValue unless these are a graph and tables of it."""
    require(is_graph(graph), "graph")
    require(are_tables(graph, tables), "tables")


def check_row(graph, tables, row):
    """Raises BadValue unless these are a graph, tables and a full row of it."""
    check_tables(graph, tables)
    require(is_row(graph[0], all_variables(graph), row), "row")


def are_scopes(value):
    """True if the value is a tuple of as many scopes as a graph can have."""
    return is_tuple(value, 1, MOST_NODES) and all([is_scope(scope) for scope in value])


def is_edge(many, value):
    """True if the value is an edge between two of so many nodes."""
    if not is_tuple(value, 2, 2) or not all([is_integer(node, 0, many - 1) for node in value]):
        return False
    return value[0] < value[1]


def are_edges(many, value):
    """True if the value is an ascending tuple of edges between so many nodes."""
    if not isinstance(value, tuple):
        return False
    return all([is_edge(many, edge) for edge in value]) and is_ascending(value)


def all_variables(graph):
    """What variables returns, without checks."""
    return tuple(sorted({variable for scope in graph[1] for variable in scope}))


def solutions(graph, tables):
    """The solutions as a message over all variables: each row once, in order, with its cost as the least one."""
    # The message with the empty row alone changes nothing in a join, so any number of tables can follow it.
    some = ()
    message = (((), 1, 0),)
    for scope, table in zip(graph[1], tables):
        message = joined(some, message, scope, told(table))
        some = united(some, scope)
    return message
