"""Writing the texts of graphs and of tables."""

from tabletalk.checks import require
from tabletalk.solutions import check_tables, is_graph


def graph_text(graph):
    """The text of the graph."""
    require(is_graph(graph), "graph")
    values, scopes, edges = graph
    told_scopes = ["".join([" " + str(variable) for variable in scope]) for scope in scopes]
    told_edges = [" " + str(one) + "-" + str(other) for one, other in edges]
    return str(values) + ":" + ",".join(told_scopes) + ";" + ",".join(told_edges)


def tables_text(graph, tables):
    """The text of the tables."""
    check_tables(graph, tables)
    return "; ".join([", ".join([row_text(row, cost) for row, cost in table]) for table in tables])


def row_text(row, cost):
    """The text of a row with its cost."""
    return " ".join([str(value) for value in row] + ["=", str(cost)])
