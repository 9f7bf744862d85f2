"""Projections of the solutions of a graph, and of some of its nodes."""

from tabletalk.checks import is_ascending, is_tuple, require
from tabletalk.graphs import is_node
from tabletalk.joins import is_some_of, projected
from tabletalk.solutions import all_variables, check_tables, solutions


def projection(graph, tables, some):
    """The projection of the solutions to some variables."""
    check_tables(graph, tables)
    require(is_some_of(all_variables(graph), some), "some")
    return solutions_projected(graph, tables, some)


def part_projection(graph, tables, nodes, some):
    """The projection of the solutions of these nodes to some of the variables in their scopes."""
    check_tables(graph, tables)
    require(are_nodes(graph, nodes), "nodes")
    alone = graph_of_nodes(graph, nodes)
    require(is_some_of(all_variables(alone), some), "some")
    return solutions_projected(alone, tuple([tables[node] for node in nodes]), some)


def are_nodes(graph, value):
    """True if the value is an ascending tuple of at least one of the nodes."""
    if not is_tuple(value, 1, len(graph[1])):
        return False
    return all([is_node(graph, node) for node in value]) and is_ascending(value)


def graph_of_nodes(graph, nodes):
    """The graph that has these nodes alone, in their order."""
    values, scopes, _ = graph
    # The edges are left out because nothing is asked of them by a solution.
    return values, tuple([scopes[node] for node in nodes]), ()


def solutions_projected(graph, tables, some):
    """What projection returns, without checks."""
    return projected(all_variables(graph), solutions(graph, tables), some)
