"""Neighbours, shared variables and ways in a graph, and whether it is a junction tree."""

from tabletalk.checks import is_integer, require
from tabletalk.errors import NotPossible
from tabletalk.solutions import all_variables, is_graph


def shared_variables(graph, one, other):
    """The shared variables of the two nodes."""
    check_two_nodes(graph, one, other)
    return shared(graph, one, other)


def told_way(graph, one, other):
    """The first one of the ways with the fewest nodes from the one to the other, or None if there is none."""
    check_two_nodes(graph, one, other)
    for many in range(1, len(graph[1]) + 1):
        for way in ways(graph, many):
            if way[0] == one and way[-1] == other:
                return way
    return None


def is_junction_tree(graph):
    """True if the graph is a junction tree."""
    require(is_graph(graph), "graph")
    return is_join_tree(graph)


def two_counts(graph):
    """The two counts: what nodes are more than edges, and what variables in scopes are more than those of edges."""
    require(is_graph(graph), "graph")
    _, scopes, edges = graph
    in_scopes = sum([len(scope) for scope in scopes])
    in_edges = sum([len(shared(graph, one, other)) for one, other in edges])
    return len(scopes) - len(edges), in_scopes - in_edges - len(all_variables(graph))


def check_two_nodes(graph, one, other):
    """Raises BadValue unless these are a graph and two of its nodes, which can be the same one."""
    require(is_graph(graph), "graph")
    require(is_node(graph, one), "one")
    require(is_node(graph, other), "other")


def check_neighbours(graph, one, other):
    """Raises BadValue unless these are a node of the graph and a neighbour of it."""
    require(is_node(graph, one), "one")
    require(is_node(graph, other) and are_neighbours(graph, one, other), "other")


def check_tree(graph):
    """Raises BadValue unless this is a graph, and NotPossible unless it is a junction tree."""
    if not is_junction_tree(graph):
        raise NotPossible("tree")


def is_join_tree(graph):
    """What is_junction_tree returns, without checks."""
    if first_cycle(graph) is not None or not hang_together(graph, all_nodes(graph)):
        return False
    return all([hang_together(graph, nodes_with(graph, variable)) for variable in all_variables(graph)])


def is_node(graph, value):
    """True if the value is a node of the graph."""
    return is_integer(value, 0, len(graph[1]) - 1)


def all_nodes(graph):
    """The nodes of the graph, ascending."""
    return tuple(range(len(graph[1])))


def nodes_with(graph, variable):
    """The nodes that have the variable in their scopes, ascending."""
    return tuple([node for node, scope in enumerate(graph[1]) if variable in scope])


def are_neighbours(graph, one, other):
    """True if the two nodes have an edge."""
    return (min(one, other), max(one, other)) in graph[2]


def neighbours(graph, node):
    """The neighbours of the node, ascending."""
    return tuple([other for other in all_nodes(graph) if are_neighbours(graph, node, other)])


def shared(graph, one, other):
    """What shared_variables returns, without checks."""
    scopes = graph[1]
    return tuple([variable for variable in scopes[one] if variable in scopes[other]])


def ways(graph, many):
    """The ways of so many nodes, from any node to any other one, ascending."""
    # Each way is followed by its neighbours in ascending order, so the longer ways ascend if the shorter ones do.
    found = [(node,) for node in all_nodes(graph)]
    for _ in range(many - 1):
        found = [way + (node,) for way in found for node in neighbours(graph, way[-1]) if node not in way]
    return found


def first_cycle(graph):
    """The first one of the cycles with the fewest nodes, as it is told, or None if there is none."""
    for many in range(3, len(graph[1]) + 1):
        for way in ways(graph, many):
            # A cycle is told by the least one of the ways around it, which is the first one that is found here.
            if are_neighbours(graph, way[0], way[-1]):
                return way
    return None


def hanging(graph, among, node):
    """The nodes that the node hangs together with among some nodes, of which it is one; in the order of these."""
    found = (node,)
    # No way has more nodes than there are, so there is nothing left to be found behind as many steps.
    for _ in among:
        found = tuple([other for other in among if other in found or is_near(graph, found, other)])
    return found


def is_near(graph, nodes, other):
    """True if the other node is a neighbour of one of the nodes."""
    return any([are_neighbours(graph, node, other) for node in nodes])


def hang_together(graph, among):
    """True if some nodes, at least one, hang together."""
    return hanging(graph, among, among[0]) == among
