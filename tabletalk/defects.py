"""Defects and good orders of graphs, which show whether a graph is a junction tree, and their judges."""

from tabletalk.checks import is_ascending, is_integer, is_tuple, is_word, require
from tabletalk.graphs import (all_nodes, are_neighbours, first_cycle, hang_together, hanging, is_junction_tree, is_near,
                              is_node, nodes_with, shared)
from tabletalk.solutions import all_variables, is_graph
from tabletalk.tables import MOST_VARIABLE


def defect(graph):
    """The told defect of the graph, or None if it is a junction tree."""
    require(is_graph(graph), "graph")
    cycle = first_cycle(graph)
    if cycle is not None:
        return "cycle", cycle
    if not hang_together(graph, all_nodes(graph)):
        return "apart", hanging(graph, all_nodes(graph), 0)
    for variable in all_variables(graph):
        among = nodes_with(graph, variable)
        if not hang_together(graph, among):
            return "split", variable, hanging(graph, among, among[0])
    return None


def accepts_defect(graph, value):
    """True if the value is a defect of the graph."""
    require(is_graph(graph), "graph")
    if not is_tuple(value, 2, 3) or not is_word(value[0], ("cycle", "apart", "split")):
        return False
    word = value[0]
    if len(value) == 2:
        return (word == "cycle" and is_cycle(graph, value[1])) or (word == "apart" and is_apart(graph, value[1]))
    return word == "split" and is_split(graph, value[1], value[2])


def good_order(graph):
    """The told good order of the graph, or None if it is no junction tree."""
    if not is_junction_tree(graph):
        return None
    order = (0,)
    while len(order) < len(graph[1]):
        behind = [node for node in all_nodes(graph) if node not in order and is_near(graph, order, node)]
        order = order + (behind[0],)
    return order


def accepts_order(graph, value):
    """True if the value is a good order of the graph."""
    require(is_graph(graph), "graph")
    if not isinstance(value, tuple) or not all([is_node(graph, node) for node in value]):
        return False
    if tuple(sorted(value)) != all_nodes(graph):
        return False
    return all([goes_on(graph, value[:at], value[at]) for at in range(1, len(value))])


def is_cycle(graph, nodes):
    """True if these are at least three different nodes, each a neighbour of the next one, and the last of the first."""
    if not is_tuple(nodes, 3, len(graph[1])) or not all([is_node(graph, node) for node in nodes]):
        return False
    behind = nodes[1:] + nodes[:1]
    return is_ascending(sorted(nodes)) and all([are_neighbours(graph, one, other) for one, other in zip(nodes, behind)])


def is_apart(graph, nodes):
    """True if these are some nodes, but not all, without an edge to the others."""
    return is_cut_off(graph, all_nodes(graph), nodes)


def is_split(graph, variable, nodes):
    """True if these are some of the nodes with the variable, but not all, without an edge to the others with it."""
    if not is_integer(variable, 0, MOST_VARIABLE):
        return False
    return is_cut_off(graph, nodes_with(graph, variable), nodes)


def is_cut_off(graph, among, nodes):
    """True if these are an ascending tuple of some, but not all, among others, without an edge to the rest of them."""
    if not is_tuple(nodes, 1, len(among) - 1):
        return False
    if not all([is_node(graph, node) and node in among for node in nodes]) or not is_ascending(nodes):
        return False
    return not any([is_near(graph, nodes, other) for other in among if other not in nodes])


def goes_on(graph, before, node):
    """True if a good order that begins with the nodes before can go on with this node."""
    near = [other for other in before if are_neighbours(graph, node, other)]
    if len(near) != 1:
        return False
    scope = graph[1][near[0]]
    return all([variable in scope for other in before for variable in shared(graph, node, other)])
