"""Silent directions, along which nothing is ever told, and the other messages of a graph with a cycle."""

from tabletalk.checks import require
from tabletalk.graphs import first_cycle, shared
from tabletalk.messages import directions
from tabletalk.solutions import is_graph
from tabletalk.tables import zeros


def silent(graph):
    """The silent directions, ascending."""
    require(is_graph(graph), "graph")
    found = tuple(sorted(directions(graph)))
    # Each step that changes something takes a direction away, so there are not more such steps than directions.
    for _ in directions(graph):
        found = tuple([pair for pair in found if follows_one(found, pair)])
    return found


def other_messages(graph):
    """Messages with a row of zeros each, with the count 1 and the least cost 0, or None if there is no cycle."""
    require(is_graph(graph), "graph")
    if first_cycle(graph) is None:
        return None
    return tuple([((zeros(shared(graph, one, other)), 1, 0),) for one, other in directions(graph)])


def follows_one(pairs, pair):
    """True if one of the directions ends where this one begins, and does not begin where this one leads."""
    return any([other == pair[0] and one != pair[1] for one, other in pairs])
