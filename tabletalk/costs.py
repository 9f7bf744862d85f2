"""The cheapest solutions, value counts, excesses, and costs that are moved from a node to a neighbour."""

from tabletalk.checks import is_integer, require
from tabletalk.errors import NotPossible
from tabletalk.graphs import check_neighbours, is_node, shared
from tabletalk.joins import is_some_of
from tabletalk.projections import solutions_projected
from tabletalk.solutions import all_variables, check_tables, solutions
from tabletalk.tables import MOST_TABLE_COST, is_row, part

MOST_CHEAPEST = 1000


def value_counts(graph, tables, variable):
    """For each value the pair of how many solutions give it to the variable, and the least cost of these or None."""
    check_tables(graph, tables)
    require(is_some_of(all_variables(graph), (variable,)), "variable")
    told = {row: (count, least) for row, count, least in solutions_projected(graph, tables, (variable,))}
    return tuple([told.get((value,), (0, None)) for value in range(graph[0])])


def cheapest(graph, tables, many):
    """The list of so many solutions, or of all, in order of costs, each as a pair of its row and its cost."""
    check_tables(graph, tables)
    require(is_integer(many, 0, MOST_CHEAPEST), "many")
    ordered = sorted([(cost, row) for row, _, cost in solutions(graph, tables)])
    return [(row, cost) for cost, row in ordered[:many]]


def excesses(graph, tables, node):
    """The pairs of each row in the table of the node and its excess, or None where there is none."""
    check_tables(graph, tables)
    require(is_node(graph, node), "node")
    leasts = {row: least for row, _, least in solutions_projected(graph, tables, graph[1][node])}
    lowest = min(leasts.values(), default=0)
    return tuple([(row, leasts[row] - lowest if row in leasts else None) for row, _ in tables[node]])


def moved(graph, tables, one, other, row, amount):
    """The tables behind moving the amount from the one to the other, for the row of their shared variables."""
    check_tables(graph, tables)
    check_neighbours(graph, one, other)
    some = shared(graph, one, other)
    require(is_row(graph[0], some, row), "row")
    require(is_integer(amount, -MOST_TABLE_COST, MOST_TABLE_COST), "amount")
    found = list(tables)
    found[one] = repriced(graph[1][one], tables[one], some, row, -amount)
    found[other] = repriced(graph[1][other], tables[other], some, row, amount)
    return tuple(found)


def repriced(scope, table, some, row, amount):
    """The table of the scope when all of its rows that have the part cost more by the amount."""
    found = []
    for whole, cost in table:
        price = cost + amount if part(scope, whole, some) == row else cost
        if not is_integer(price, 0, MOST_TABLE_COST):
            raise NotPossible("cost")
        found.append((whole, price))
    return tuple(found)
