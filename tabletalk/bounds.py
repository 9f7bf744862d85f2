"""Evidence of how many solutions there are and of what they cost at least, and its judges."""

from tabletalk.checks import is_integer, is_tuple, require
from tabletalk.defects import good_order
from tabletalk.graphs import all_nodes, check_tree, is_junction_tree, shared
from tabletalk.messages import believed, fit_edges
from tabletalk.rounds import are_consistent, computed
from tabletalk.solutions import check_row, check_tables, solutions
from tabletalk.tables import all_rows, has_ascending_rows, is_row, part

MOST_NUMBER = 1000000
# More than any solution costs, and so much that a bound by it shows that there is none.
BEYOND = 1000


def totals_evidence(graph, tables):
    """Evidence of the totals of a junction tree: the computed messages."""
    check_tables(graph, tables)
    check_tree(graph)
    return computed(graph, tables)


def accepts_totals(graph, tables, count, least, value):
    """True if the value is evidence that there are so many solutions of a junction tree, with this least cost."""
    check_tables(graph, tables)
    require(is_integer(count, 0, MOST_NUMBER), "count")
    require(least is None or is_integer(least, 0, MOST_NUMBER), "least")
    if not is_junction_tree(graph) or not fit_edges(graph, value) or not are_consistent(graph, tables, value):
        return False
    # All nodes tell the same, so any of them can be asked.
    return told_total(believed(graph, tables, value, 0)) == (count, least)


def told_potentials(graph, tables):
    """Potentials of a junction tree for the least cost, or for a bound that shows that there is no solution."""
    check_tables(graph, tables)
    check_tree(graph)
    order = good_order(graph)
    messages = computed(graph, tables)
    found = []
    # All costs go to node 0: its rows cost then what they cost at least together with those of all other nodes.
    for at, (one, other) in enumerate(graph[2]):
        some = shared(graph, one, other)
        if order.index(one) < order.index(other):
            found.append(amounts(graph[0], some, messages[2 * at + 1], 1))
        else:
            found.append(amounts(graph[0], some, messages[2 * at], -1))
    return tuple(found)


def accepts_bound(graph, tables, bound, value):
    """True if the value is potentials of the graph by which the number is a bound, or less than one."""
    check_tables(graph, tables)
    require(is_integer(bound, 0, MOST_NUMBER), "bound")
    return are_potentials(graph, value) and is_bound(graph, tables, value, bound)


def accepts_cheapest(graph, tables, row, value):
    """True if the value is evidence that the solution with the row is one of the cheapest."""
    check_row(graph, tables, row)
    costs = {solution: cost for solution, _, cost in solutions(graph, tables)}
    require(row in costs, "row")
    return are_potentials(graph, value) and is_bound(graph, tables, value, costs[row])


def told_total(message):
    """The pair of the sum of the counts of a message and the least of its costs, or None where it has no row."""
    return sum([count for _, count, _ in message]), min([least for _, _, least in message], default=None)


def amounts(values, some, message, sign):
    """The pairs of each row and its least cost in the message, with the sign, and far more where it is not there."""
    leasts = {row: least for row, _, least in message}
    return tuple([(row, sign * leasts.get(row, BEYOND)) for row in all_rows(values, some)])


def are_potentials(graph, value):
    """True if the value is potentials of the graph."""
    values, _, edges = graph
    if not is_tuple(value, len(edges), len(edges)):
        return False
    return all([are_pairs(values, shared(graph, one, other), pairs) for (one, other), pairs in zip(edges, value)])


def are_pairs(values, some, value):
    """True if the value is an ascending tuple of pairs of different rows of some variables and amounts."""
    if not isinstance(value, tuple):
        return False
    return all([is_pair(values, some, item) for item in value]) and has_ascending_rows(value)


def is_pair(values, some, value):
    """True if the value is a pair of a row of some variables and an amount."""
    return is_tuple(value, 2, 2) and is_row(values, some, value[0]) and is_integer(value[1], -MOST_NUMBER, MOST_NUMBER)


def is_bound(graph, tables, potentials, bound):
    """True if by the potentials the number is a bound, or less than one."""
    # Where a table is empty there is no floor, and no solution, so every number is a bound.
    if () in tables:
        return True
    return sum([floor(graph, tables, potentials, node) for node in all_nodes(graph)]) >= bound


def floor(graph, tables, potentials, node):
    """The least cost of a row in the table of the node, which has one, by the potentials."""
    near = [(edge, pairs) for edge, pairs in zip(graph[2], potentials) if node in edge]
    costs = []
    for row, cost in tables[node]:
        costs.append(cost + sum([added(graph, edge, pairs, node, row) for edge, pairs in near]))
    return min(costs)


def added(graph, edge, pairs, node, row):
    """What a row in the table of the node costs more by the pairs of an edge of the node."""
    one, other = edge
    here = part(graph[1][node], row, shared(graph, one, other))
    found = {told: amount for told, amount in pairs}
    return found.get(here, 0) if node == one else -found.get(here, 0)
