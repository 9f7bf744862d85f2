"""Which sets of edges make a junction tree of some scopes, and which variables are lacking if none does."""

from itertools import combinations

from tabletalk.checks import is_ascending, is_integer, is_tuple, require
from tabletalk.graphs import all_nodes, hang_together, hanging, is_join_tree, nodes_with, shared
from tabletalk.solutions import all_variables, are_edges, are_scopes
from tabletalk.tables import LEAST_VALUES, MOST_VARIABLE


def makes_tree(scopes, edges):
    """True if the set of edges makes a junction tree."""
    check_edges(scopes, edges)
    return is_join_tree(graph_of(scopes, edges))


def count_making(scopes):
    """The number of the sets of edges that make a junction tree."""
    require(are_scopes(scopes), "scopes")
    return len(making(scopes))


def first_making(scopes):
    """The first one of the sets of edges that make a junction tree, or None if there is none."""
    require(are_scopes(scopes), "scopes")
    found = making(scopes)
    return found[0] if found else None


def shared_number(scopes, edges):
    """The shared number of the set of edges."""
    check_edges(scopes, edges)
    return number_shared(scopes, edges)


def due_number(scopes):
    """The due number of the scopes."""
    require(are_scopes(scopes), "scopes")
    graph = graph_of(scopes, ())
    return sum([len(nodes_with(graph, variable)) - 1 for variable in all_variables(graph)])


def most_shared(scopes):
    """The greatest shared number of a tree."""
    require(are_scopes(scopes), "scopes")
    return max([number_shared(scopes, edges) for edges in trees(scopes)])


def told_tree(scopes):
    """The pair of the first one of the trees that lack the fewest variables, and its additions."""
    require(are_scopes(scopes), "scopes")
    told = min(trees(scopes), key=lambda edges: len(additions(scopes, edges)))
    return told, additions(scopes, told)


def accepts_additions(scopes, edges, value):
    """True if the value is additions with which the set of edges makes a junction tree."""
    check_edges(scopes, edges)
    if not isinstance(value, tuple) or not all([is_addition(scopes, item) for item in value]):
        return False
    return is_ascending(value) and is_join_tree(graph_of(extended(scopes, value), edges))


def check_edges(scopes, edges):
    """Raises BadValue unless these are scopes and a set of edges for them."""
    require(are_scopes(scopes), "scopes")
    require(are_edges(len(scopes), edges), "edges")


def graph_of(scopes, edges):
    """The graph with these scopes and edges; how many values there are does not matter for what is asked here."""
    return LEAST_VALUES, scopes, edges


def sets_of_edges(nodes, many):
    """The sets of so many edges between so many nodes, in their order."""
    pairs = list(combinations(range(nodes), 2))
    return list(combinations(pairs, many))


def trees(scopes):
    """The sets of edges that are a tree, in their order."""
    # With one edge less than there are nodes, these hang together exactly if there is no cycle.
    nodes = all_nodes(graph_of(scopes, ()))
    return [edges for edges in sets_of_edges(len(nodes), len(nodes) - 1)
            if hang_together(graph_of(scopes, edges), nodes)]


def making(scopes):
    """The sets of edges that make a junction tree, in their order."""
    return [edges for edges in trees(scopes) if is_join_tree(graph_of(scopes, edges))]


def number_shared(scopes, edges):
    """What shared_number returns, without checks."""
    return sum([len(shared(graph_of(scopes, edges), one, other)) for one, other in edges])


def additions(scopes, edges):
    """What the tree with these edges lacks: the pairs of a node and a variable, ascending."""
    graph = graph_of(scopes, edges)
    return tuple([(node, variable) for node in all_nodes(graph) for variable in all_variables(graph)
                  if lacks(graph, node, variable)])


def lacks(graph, node, variable):
    """True if the tree lacks the variable, which some node has, in the node."""
    having = nodes_with(graph, variable)
    if node in having:
        return False
    # The node lies on the way between two of these nodes exactly if they do not hang together without it.
    rest = tuple([other for other in all_nodes(graph) if other != node])
    near = hanging(graph, rest, having[0])
    return any([other not in near for other in having])


def is_addition(scopes, value):
    """True if the value is a pair of a node and a variable that the node does not have."""
    if not is_tuple(value, 2, 2):
        return False
    node, variable = value
    if not is_integer(node, 0, len(scopes) - 1) or not is_integer(variable, 0, MOST_VARIABLE):
        return False
    return variable not in scopes[node]


def extended(scopes, pairs):
    """The scopes when each node of the pairs has the variable, too; they can have more variables than scopes have."""
    found = list(scopes)
    for node, variable in pairs:
        found[node] = tuple(sorted(found[node] + (variable,)))
    return tuple(found)
