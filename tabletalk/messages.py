"""Messages of a graph: which are required, which nodes are consistent, what nodes believe, and totals of edges."""

from tabletalk.checks import is_integer, is_tuple, require
from tabletalk.graphs import check_neighbours, is_node, neighbours, shared
from tabletalk.joins import joined, projected, told
from tabletalk.solutions import check_tables, is_graph
from tabletalk.tables import is_message


def are_messages(graph, value):
    """True if the value is messages of the graph."""
    require(is_graph(graph), "graph")
    return fit_edges(graph, value)


def required_message(graph, tables, messages, one, other):
    """The required message of the node one to its neighbour other."""
    check_messages(graph, tables, messages)
    check_neighbours(graph, one, other)
    return required(graph, tables, messages, one, other)


def inconsistent(graph, tables, messages):
    """The pairs of a node and a neighbour whose message is not the required one, ascending."""
    check_messages(graph, tables, messages)
    found = []
    for (one, other), message in zip(directions(graph), messages):
        if message != required(graph, tables, messages, one, other):
            found.append((one, other))
    return tuple(sorted(found))


def belief(graph, tables, messages, node):
    """The belief of the node: the rows of its table that all its neighbours leave."""
    check_messages(graph, tables, messages)
    require(is_node(graph, node), "node")
    return believed(graph, tables, messages, node)


def total(graph, messages, edge):
    """The total of the edge: a pair of a count and a least cost, or None if no row is in both of its messages."""
    require(is_graph(graph), "graph")
    require(fit_edges(graph, messages), "messages")
    require(is_integer(edge, 0, len(graph[2]) - 1), "edge")
    one, other = graph[2][edge]
    some = shared(graph, one, other)
    both = joined(some, messages[2 * edge], some, messages[2 * edge + 1])
    gathered = projected(some, both, ())
    if not gathered:
        return None
    _, count, least = gathered[0]
    return count, least


def check_messages(graph, tables, messages):
    """Raises BadValue unless these are a graph, tables and messages of it."""
    check_tables(graph, tables)
    require(fit_edges(graph, messages), "messages")


def directions(graph):
    """The pairs of a node that sends and a neighbour that receives, in the order of the messages."""
    return tuple([pair for one, other in graph[2] for pair in ((one, other), (other, one))])


def fit_edges(graph, value):
    """What are_messages returns, without checks."""
    pairs = directions(graph)
    if not is_tuple(value, len(pairs), len(pairs)):
        return False
    variables = [shared(graph, one, other) for one, other in pairs]
    return all([is_message(graph[0], some, message) for some, message in zip(variables, value)])


def required(graph, tables, messages, one, other):
    """What required_message returns, without checks."""
    senders = [node for node in neighbours(graph, one) if node != other]
    rows = left(graph, tables, messages, one, senders)
    return projected(graph[1][one], rows, shared(graph, one, other))


def believed(graph, tables, messages, node):
    """What belief returns, without checks."""
    return left(graph, tables, messages, node, neighbours(graph, node))


def left(graph, tables, messages, node, senders):
    """The rows of the table of the node that some of its neighbours leave, with their counts and costs."""
    scope = graph[1][node]
    pairs = directions(graph)
    rows = told(tables[node])
    # What a neighbour leaves is the join with its message, the variables of which are all in the scope.
    for sender in senders:
        rows = joined(scope, rows, shared(graph, sender, node), messages[pairs.index((sender, node))])
    return rows
