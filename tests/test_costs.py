"""Points 1 to 8, 63 to 65, and 71 to 73 as far as they speak of tabletalk.costs: the order of costs, moved costs."""

from tabletalk.costs import cheapest, excesses, moved, value_counts
from tabletalk.solutions import are_tables, count_solutions, variables
from tests.support import (BARE, GRAPH, LARGE, STRANGE, TABLES, WRONG_GRAPHS, WRONG_NODES, WRONG_TABLES, Case, Numbers,
                           all_rows, directions, full_tables, plain_neighbours, plain_shared, plain_solutions,
                           restricted, samples)

PAIR = (2, ((0, 1), (0, 2)), ((0, 1),))
PRICES = ((((0, 0), 3), ((0, 1), 1), ((1, 0), 0)), (((0, 1), 2), ((1, 0), 5), ((1, 1), 4)))
GOOD = [("graph", [None]), ("tables", [()])]


def plain_value_counts(graph, tables, variable):
    found = []
    for value in range(graph[0]):
        costs = [cost for row, cost in plain_solutions(graph, tables) if row[variables(graph).index(variable)] == value]
        found.append((len(costs), min(costs, default=None)))
    return tuple(found)


def plain_excesses(graph, tables, node):
    found = plain_solutions(graph, tables)
    told = []
    for row, _ in tables[node]:
        costs = [cost for whole, cost in found if restricted(variables(graph), whole, graph[1][node]) == row]
        told.append((row, min(costs) - min(cost for _, cost in found) if costs else None))
    return tuple(told)


def plain_moved(graph, tables, one, other, row, amount):
    """Point 65, word by word; the costs are not bounded."""
    some = plain_shared(graph, one, other)
    more = {one: -amount, other: amount}
    return tuple(tuple((whole, cost + more.get(node, 0) * (restricted(graph[1][node], whole, some) == row))
                       if node in more else (whole, cost) for whole, cost in table)
                 for node, table in enumerate(tables))


class ValueCountsTest(Case):
    def test_example(self):
        self.assert_same(((3, 4), (1, 3)), self.assert_leaves_arguments(value_counts, PAIR, PRICES, 1))
        self.assert_same(((2, 3), (2, 4)), value_counts(PAIR, PRICES, 0))
        self.assert_same(((1, 5), (3, 3)), value_counts(PAIR, PRICES, 2))

    def test_values_that_no_solution_has(self):
        self.assert_same(((0, None), (2, 3)), value_counts(GRAPH, TABLES, 1))
        self.assert_same(((0, None), (0, None)), value_counts(GRAPH, TABLES[:2] + ((),), 0))
        single = (3, ((4,),), ())
        self.assert_same(((1, 100), (0, None), (1, 0)), value_counts(single, ((((0,), 100), ((2,), 0)),), 4))
        self.assert_same(((0, None),) * 3, value_counts(single, ((),), 4))

    def test_all_rows(self):
        for variable in range(6):
            self.assert_same(((243, 500),) * 3, value_counts(LARGE, full_tables(LARGE, 100), variable))

    def test_by_the_words_of_the_document(self):
        for graph, tables in samples(60):
            for variable in variables(graph):
                told = value_counts(graph, tables, variable)
                self.assert_same(plain_value_counts(graph, tables, variable), told)
                self.assertEqual(count_solutions(graph, tables), sum(count for count, _ in told))

    def test_wrong_arguments(self):
        wrong = STRANGE + [2, 5, 6, -1, (0,), 0.0, "0"]
        self.assert_refuses(value_counts, (GRAPH, TABLES, 0), [
            ("graph", WRONG_GRAPHS), ("tables", WRONG_TABLES), ("variable", wrong)])
        for variable in (0, 5, None, False):
            self.assert_refuses(lambda value: value_counts(BARE, ((), ()), value), (0,), [("variable", [variable])])


class CheapestTest(Case):
    def test_example(self):
        told = self.assert_leaves_arguments(cheapest, PAIR, PRICES, 2)
        self.assert_same([((0, 1, 1), 3), ((1, 0, 1), 4)], told)

    def test_how_many(self):
        everything = [((0, 1, 1), 3), ((1, 0, 1), 4), ((0, 0, 1), 5), ((1, 0, 0), 5)]
        for many in range(6):
            self.assert_same(everything[:many], cheapest(PAIR, PRICES, many))
        self.assert_same(everything, cheapest(PAIR, PRICES, 1000))
        self.assert_same([], cheapest(PAIR, PRICES, 0))

    def test_the_first_row_of_several_with_the_same_cost(self):
        rows = [(row, 5) for row in all_rows(3, range(6))]
        for many in (1, 2, 728, 729, 730, 1000):
            self.assert_same(rows[:many], cheapest(LARGE, full_tables(LARGE, 1), many))

    def test_no_solution_and_no_variables(self):
        self.assert_same([], cheapest(GRAPH, TABLES[:2] + ((),), 10))
        self.assert_same([((), 7)], cheapest(BARE, ((((), 7),), (((), 0),)), 10))
        self.assert_same([], cheapest(BARE, ((((), 7),), ()), 10))
        self.assert_same([((1,), 0), ((0,), 100)], cheapest((2, ((3,),), ()), ((((0,), 100), ((1,), 0)),), 2))

    def test_by_the_words_of_the_document(self):
        found = 0
        for graph, tables in samples(60):
            ordered = sorted(plain_solutions(graph, tables), key=lambda item: (item[1], item[0]))
            for many in (0, 1, 2, len(ordered), len(ordered) + 1):
                self.assert_same(ordered[:many], cheapest(graph, tables, many))
            found += len(ordered)
        self.assertLess(300, found)

    def test_a_returned_list_is_not_used_again(self):
        cheapest(PAIR, PRICES, 4).clear()
        self.assertEqual(4, len(cheapest(PAIR, PRICES, 4)))

    def test_wrong_arguments(self):
        wrong = STRANGE + [-1, 1001, (1,), [1], 1.0, "1"]
        self.assert_refuses(cheapest, (GRAPH, TABLES, 1), [
            ("graph", WRONG_GRAPHS), ("tables", WRONG_TABLES), ("many", wrong)])


class ExcessesTest(Case):
    def test_example(self):
        told = self.assert_leaves_arguments(excesses, PAIR, PRICES, 0)
        self.assert_same((((0, 0), 2), ((0, 1), 0), ((1, 0), 1)), told)
        self.assert_same((((0, 1), 0), ((1, 0), 2), ((1, 1), 1)), excesses(PAIR, PRICES, 1))

    def test_rows_that_no_solution_has(self):
        self.assert_same((((0, 0), None), ((0, 1), 0), ((1, 1), 2)), excesses(GRAPH, TABLES, 1))
        self.assert_same((((1,), None),), excesses(GRAPH, (TABLES[0], (), TABLES[2]), 2))
        self.assert_same((), excesses(GRAPH, (TABLES[0], (), TABLES[2]), 1))
        self.assert_same((((), 0),), excesses(BARE, ((((), 9),), (((), 9),)), 1))
        self.assert_same((((), None),), excesses(BARE, ((), (((), 9),)), 1))

    def test_by_the_words_of_the_document(self):
        """Also: if there is a solution, some row of each node has the excess 0."""
        found = 0
        for graph, tables in samples(60):
            for node in range(len(graph[1])):
                told = excesses(graph, tables, node)
                self.assert_same(plain_excesses(graph, tables, node), told)
                self.assertIs(bool(plain_solutions(graph, tables)), 0 in [excess for _, excess in told])
                found += len([excess for _, excess in told if excess])
        self.assertLess(300, found)

    def test_all_costs_greater_by_1(self):
        """Point 71."""
        for graph, tables in samples(40):
            cheap = tuple(tuple((row, min(cost, 99)) for row, cost in table) for table in tables)
            dear = tuple(tuple((row, cost + 1) for row, cost in table) for table in cheap)
            for node in range(len(graph[1])):
                self.assert_same(excesses(graph, cheap, node), excesses(graph, dear, node))
            first, then = cheapest(graph, cheap, 1000), cheapest(graph, dear, 1000)
            self.assert_same([(row, cost + len(graph[1])) for row, cost in first], then)

    def test_wrong_arguments(self):
        self.assert_refuses(excesses, (GRAPH, TABLES, 0), [
            ("graph", WRONG_GRAPHS), ("tables", WRONG_TABLES), ("node", WRONG_NODES)])
        self.assert_refuses(excesses, ((2, ((),), ()), ((),), 0), GOOD + [("node", [1, -1, False])])


class MovedTest(Case):
    def test_example(self):
        told = self.assert_leaves_arguments(moved, PAIR, PRICES, 1, 0, (1,), 4)
        self.assert_same(((((0, 0), 3), ((0, 1), 1), ((1, 0), 4)), (((0, 1), 2), ((1, 0), 1), ((1, 1), 0))), told)

    def test_both_ways_and_back(self):
        self.assert_same(PRICES, moved(PAIR, PRICES, 1, 0, (1,), 0))
        there = moved(PAIR, PRICES, 0, 1, (0,), 1)
        self.assert_same(((((0, 0), 2), ((0, 1), 0), ((1, 0), 0)), (((0, 1), 3),) + PRICES[1][1:]), there)
        self.assert_same(there, moved(PAIR, PRICES, 1, 0, (0,), -1))
        self.assert_same(PRICES, moved(PAIR, there, 0, 1, (0,), -1))

    def test_rows_that_no_table_has(self):
        self.assert_same(((), ()), moved(PAIR, ((), ()), 0, 1, (0,), 100))
        only = ((((0, 0), 3),), (((1, 0), 5),))
        self.assert_same(((((0, 0), 0),), (((1, 0), 5),)), moved(PAIR, only, 0, 1, (0,), 3))
        self.assert_same(((((0, 0), 3),), (((1, 0), 100),)), moved(PAIR, only, 0, 1, (1,), 95))

    def test_no_shared_variable(self):
        tables = ((((), 4),), (((), 96),))
        self.assert_same(((((), 0),), (((), 100),)), moved(BARE, tables, 0, 1, (), 4))
        self.assert_same(((((), 100),), (((), 0),)), moved(BARE, tables, 1, 0, (), 96))

    def test_costs_of_0_and_of_100(self):
        tables = ((((0, 0), 100), ((1, 0), 0)), (((0, 1), 0), ((1, 1), 100)))
        told = ((((0, 0), 0), ((1, 0), 0)), (((0, 1), 100), ((1, 1), 100)))
        self.assert_same(told, moved(PAIR, tables, 0, 1, (0,), 100))
        self.assert_same(told, moved(PAIR, tables, 1, 0, (0,), -100))
        self.assert_same(tables, moved(PAIR, told, 0, 1, (0,), -100))
        self.assert_same(((((0, 0), 100), ((1, 0), 100)), (((0, 1), 0), ((1, 1), 0))),
                         moved(PAIR, tables, 1, 0, (1,), 100))
        for row, amount in (((0,), -1), ((0,), -100), ((1,), 1), ((1,), 100)):
            self.assert_raises_with_cost(PAIR, tables, 0, 1, row, amount)
            self.assert_raises_with_cost(PAIR, tables, 1, 0, row, -amount)

    def assert_raises_with_cost(self, *arguments):
        self.assert_not_possible("cost", moved, *arguments)

    def test_a_cost_that_would_leave_0_to_100(self):
        for at, price in ((0, 3), (1, 98)):
            # Only one of the two tables has a row of a cost that cannot be moved so far.
            tables = tuple((((0, 0), price),) if node == at else () for node in range(2))
            for amount in range(-100, 101):
                change = amount if at else -amount
                if 0 <= price + change <= 100:
                    told = moved(PAIR, tables, 0, 1, (0,), amount)
                    self.assert_same(tuple((((0, 0), price + change),) if node == at else () for node in (0, 1)), told)
                else:
                    self.assert_raises_with_cost(PAIR, tables, 0, 1, (0,), amount)
                self.assert_same(tables, moved(PAIR, tables, 0, 1, (1,), amount))

    def test_by_the_words_of_the_document(self):
        """Also: the solutions and their costs stay, and so do value counts and excesses."""
        numbers = Numbers(65)
        found = [0, 0]
        for graph, tables in samples(80):
            for one, other in directions(graph):
                row = numbers.among(all_rows(graph[0], plain_shared(graph, one, other)))
                amount = numbers.below(41) - 20
                right = plain_moved(graph, tables, one, other, row, amount)
                found[are_tables(graph, right)] += 1
                if not are_tables(graph, right):
                    self.assert_raises_with_cost(graph, tables, one, other, row, amount)
                    continue
                told = moved(graph, tables, one, other, row, amount)
                self.assert_same(right, told)
                self.assert_same(cheapest(graph, tables, 1000), cheapest(graph, told, 1000))
                for variable in variables(graph):
                    self.assert_same(value_counts(graph, tables, variable), value_counts(graph, told, variable))
                for node in range(len(graph[1])):
                    self.assert_same(excesses(graph, tables, node), excesses(graph, told, node))
        self.assertLess(50, min(found))

    def test_wrong_arguments(self):
        amounts = STRANGE + [-101, 101, (1,), [1], 1.0, "1"]
        rows = STRANGE + [0, (), [0], (2,), (-1,), (0, 0), (False,), (0.0,), "0"]
        self.assert_refuses(moved, (GRAPH, TABLES, 0, 1, (0,), 0), [
            ("graph", WRONG_GRAPHS), ("tables", WRONG_TABLES), ("one", WRONG_NODES), ("other", WRONG_NODES + [0, 2]),
            ("row", rows), ("amount", amounts)])
        # What a neighbour is depends on the one, and what a row is on both.
        self.assert_refuses(moved, (GRAPH, TABLES, 1, 2, (1,), 0), GOOD + [
            ("one", [3, True, None]), ("other", [1, 3, True]), ("row", [(), (2,), (0, 1), (True,)]),
            ("amount", [101, -101, False])])
        self.assert_refuses(moved, (BARE, ((), ()), 0, 1, (), 0), GOOD + [
            ("one", [2]), ("other", [0, 2]), ("row", [(0,), None, []]), ("amount", [None])])

    def test_no_neighbours(self):
        for graph in ((2, ((0,), (0,)), ()), (3, ((0,), (0,), (0,)), ((0, 2), (1, 2)))):
            self.assertNotIn(1, plain_neighbours(graph, 0))
            self.assert_refuses(lambda other: moved(graph, full_tables(graph, 1), 0, other, (0,), 0), (2,), [
                ("other", [0, 1])])

    def test_wrong_arguments_come_first(self):
        """A cost that would leave 0 to 100 is told when nothing else is wrong."""
        self.assert_refuses(moved, (PAIR, PRICES, 0, 1, (0,), 2), GOOD + [
            ("one", [2]), ("other", [0]), ("row", [(2,)]), ("amount", [101])])
        self.assert_raises_with_cost(PAIR, PRICES, 0, 1, (0,), 2)


class ExampleTest(Case):
    def test_point_73(self):
        self.assert_same(4, count_solutions(PAIR, PRICES))
        self.assert_same([((0, 1, 1), 3)], cheapest(PAIR, PRICES, 1))
