"""Deceived nodes, misjudged rows, and counterexamples, which show that a graph cannot be trusted."""

from tabletalk.checks import is_tuple, require
from tabletalk.defects import defect
from tabletalk.graphs import all_nodes, is_junction_tree, is_node
from tabletalk.joins import projected
from tabletalk.messages import believed, check_messages, fit_edges
from tabletalk.projections import solutions_projected
from tabletalk.rounds import are_consistent, computed
from tabletalk.solutions import all_variables, are_tables, is_graph, solutions
from tabletalk.tables import zeros


def is_trusted(graph):
    """True if no counterexample exists for the graph."""
    # No node of a junction tree is deceived if all are consistent; each other graph has a told counterexample.
    return is_junction_tree(graph)


def deceived(graph, tables, messages):
    """The nodes that are deceived, ascending."""
    check_messages(graph, tables, messages)
    return deceived_nodes(graph, tables, messages)


def misjudged(graph, tables, messages, node):
    """Triples of the misjudged rows of the node, with what is believed and what is true of each, ascending."""
    check_messages(graph, tables, messages)
    require(is_node(graph, node), "node")
    thought = by_rows(believed(graph, tables, messages, node))
    true = by_rows(solutions_projected(graph, tables, graph[1][node]))
    triples = [(row, thought.get(row), true.get(row)) for row, _ in tables[node]]
    return tuple([triple for triple in triples if triple[1] != triple[2]])


def told_counterexample(graph):
    """The told counterexample of the graph, or None if it is a junction tree."""
    found = defect(graph)
    if found is None:
        return None
    tables = tuple([deceiving_table(graph, found, node) for node in all_nodes(graph)])
    return tables, computed(graph, tables)


def is_counterexample(graph, value):
    """True if the value is a counterexample for the graph."""
    require(is_graph(graph), "graph")
    if not is_tuple(value, 2, 2):
        return False
    tables, messages = value
    if not are_tables(graph, tables) or not fit_edges(graph, messages):
        return False
    return are_consistent(graph, tables, messages) and len(deceived_nodes(graph, tables, messages)) > 0


def deceived_nodes(graph, tables, messages):
    """What deceived returns, without checks."""
    some = all_variables(graph)
    found = solutions(graph, tables)
    true = [projected(some, found, scope) for scope in graph[1]]
    return tuple([node for node in all_nodes(graph) if believed(graph, tables, messages, node) != true[node]])


def by_rows(message):
    """For each row of the message the pair of its count and its least cost."""
    return {row: (count, least) for row, count, least in message}


def deceiving_table(graph, found, node):
    """The table of the node in the told counterexample of a graph with this told defect."""
    scope = graph[1][node]
    if found[0] == "split" and node not in found[2]:
        # Only the nodes that the part is split from have 1, so the two never agree, and no neighbours see it.
        return ((tuple([1 if variable == found[1] else 0 for variable in scope]), 0),)
    if found[0] == "apart" and node not in found[1]:
        return ()
    return ((zeros(scope), 0),)
