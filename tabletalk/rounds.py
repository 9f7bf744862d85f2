"""Rounds, in which all messages of a graph are replaced by the required ones, and the computed messages."""

from tabletalk.graphs import all_nodes
from tabletalk.messages import directions, required
from tabletalk.solutions import check_tables


def computed_messages(graph, tables):
    """The messages that come from empty ones by as many rounds as there are nodes."""
    check_tables(graph, tables)
    return computed(graph, tables)


def count_rounds(graph, tables):
    """The least number of rounds, beginning with empty messages, behind which one more changes nothing."""
    check_tables(graph, tables)
    many = 0
    messages = empty_messages(graph)
    behind = replaced(graph, tables, messages)
    while behind != messages:
        messages = behind
        behind = replaced(graph, tables, messages)
        many += 1
    return many


def computed(graph, tables):
    """What computed_messages returns, without checks."""
    messages = empty_messages(graph)
    for _ in all_nodes(graph):
        messages = replaced(graph, tables, messages)
    return messages


def empty_messages(graph):
    """Messages of the graph without any row."""
    return tuple([() for _ in directions(graph)])


def replaced(graph, tables, messages):
    """The messages behind one round more."""
    return tuple([required(graph, tables, messages, one, other) for one, other in directions(graph)])


def are_consistent(graph, tables, messages):
    """True if all nodes are consistent, so that a round changes nothing."""
    return replaced(graph, tables, messages) == messages
