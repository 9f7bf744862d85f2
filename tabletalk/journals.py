"""Journals of networks, which can be replayed, and records, which can be judged."""

from tabletalk.checks import is_integer, is_tuple, require
from tabletalk.errors import NotPossible, TooLarge
from tabletalk.late import MOST_ACTIONS, are_actions, fits_action
from tabletalk.network import Network


def replayed(graph, journal):
    """The network that is replayed from the journal."""
    network = Network(graph)
    require(are_actions(graph, journal), "journal")
    for command in journal:
        network.act(command)
    return network


def are_right(graph, records):
    """True if the records are right for the graph."""
    network = Network(graph)
    if not is_tuple(records, 0, MOST_ACTIONS):
        return False
    for record in records:
        if not holds_next(network, record):
            return False
    return True


def holds_next(network, record):
    """True if the value is a record that holds for the network, which performs the command then."""
    if not is_tuple(record, 2, 2) or not fits_action(network.graph, record[0]):
        return False
    command, told = record
    try:
        effect = network.act(command)
    except (NotPossible, TooLarge):
        return False
    # An integer is asked for, as True is no effect.
    return is_integer(told, effect, effect)
