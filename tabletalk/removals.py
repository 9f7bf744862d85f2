"""Removals of nodes, which show whether some set of edges makes a junction tree of some scopes."""

from tabletalk.checks import is_integer, is_tuple, is_word, require
from tabletalk.solutions import are_scopes


def edge_evidence(scopes):
    """The told removal with its word: a pair of "edges" or "stuck" and the removal."""
    require(are_scopes(scopes), "scopes")
    left = tuple(range(len(scopes)))
    removal = ()
    pairs = going(scopes, left)
    while pairs:
        removal = removal + (pairs[0],)
        left = without(left, pairs[0][0])
        pairs = going(scopes, left)
    word = "edges" if len(left) == 1 else "stuck"
    return word, removal


def accepts_removal(scopes, value):
    """True if the value is evidence of either word about the scopes."""
    require(are_scopes(scopes), "scopes")
    if not is_tuple(value, 2, 2) or not is_word(value[0], ("edges", "stuck")):
        return False
    word, removal = value
    left = remaining(scopes, removal)
    if left is None:
        return False
    if word == "edges":
        return len(left) == 1
    return len(left) > 1 and going(scopes, left) == []


def remaining(scopes, removal):
    """The nodes that remain behind the removal, or None if the value is no removal."""
    if not is_tuple(removal, 0, len(scopes) - 1):
        return None
    left = tuple(range(len(scopes)))
    for pair in removal:
        # Integers are asked for, as True stands for no node.
        if not is_tuple(pair, 2, 2) or not all([is_integer(node, 0, len(scopes) - 1) for node in pair]):
            return None
        if pair not in going(scopes, left):
            return None
        left = without(left, pair[0])
    return left


def going(scopes, left):
    """The pairs of a node and another one that it can go with, of those that remain, ascending."""
    return [(node, other) for node in left for other in left if node != other and can_go(scopes, left, node, other)]


def can_go(scopes, left, node, other):
    """True if the other node has each variable that the node shares with some node that remains."""
    rest = without(left, node)
    needed = [variable for variable in scopes[node] if any([variable in scopes[each] for each in rest])]
    return all([variable in scopes[other] for variable in needed])


def without(nodes, node):
    """The nodes but this one."""
    return tuple([each for each in nodes if each != node])
