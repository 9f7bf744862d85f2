"""Nodes the tables of which alone are enough to answer a question, the smallest ones, and those that are needed."""

from itertools import combinations

from tabletalk.checks import is_tuple, require
from tabletalk.graphs import all_nodes
from tabletalk.projections import are_nodes, graph_of_nodes
from tabletalk.questions import check_question, check_variable_value, divided
from tabletalk.solutions import all_variables, check_tables, solutions


def is_enough(graph, tables, nodes, variable, value):
    """True if the nodes are enough for the question."""
    check_tables(graph, tables)
    require(is_tuple(nodes, 0, 0) or are_nodes(graph, nodes), "nodes")
    check_variable_value(graph, variable, value)
    return are_enough(graph, tables, nodes, variable, value)


def smallest_enough(graph, tables, variable, value):
    """The first of the fewest nodes that are enough for the question, or None if all together are not enough."""
    check_question(graph, tables, variable, value)
    nodes = list(all_nodes(graph))
    for many in range(len(nodes) + 1):
        for chosen in combinations(nodes, many):
            if are_enough(graph, tables, chosen, variable, value):
                return chosen
    return None


def needed(graph, tables, variable, value):
    """The nodes that are among all that are enough for the question, or None if all together are not enough."""
    check_question(graph, tables, variable, value)
    nodes = all_nodes(graph)
    if not are_enough(graph, tables, nodes, variable, value):
        return None
    # With more nodes those that are enough stay so: a node is needed exactly if all others are not enough.
    rests = [tuple([other for other in nodes if other != node]) for node in nodes]
    return tuple([node for node, rest in zip(nodes, rests) if not are_enough(graph, tables, rest, variable, value)])


def are_enough(graph, tables, nodes, variable, value):
    """What is_enough returns, without checks."""
    alone = graph_of_nodes(graph, nodes)
    chosen = tuple([tables[node] for node in nodes])
    if variable not in all_variables(alone):
        return solutions(alone, chosen) == ()
    _, others = divided(alone, chosen, variable, value)
    return others == []
