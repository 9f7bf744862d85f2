"""Points 1 to 8, 19, 20 and 26 to 28: graphs, their tables and their solutions."""

import itertools
import unittest

from tabletalk.solutions import (are_tables, count_solutions, index_of_solution, is_graph, nth_solution, rejecting,
                                 variables)
from tests.support import (BARE, GRAPH, LARGE, STRANGE, TABLES, WRONG_GRAPHS, WRONG_TABLES, Case, all_rows, all_some,
                           full_tables, plain_solutions, restricted, samples)

WRONG_ROWS = STRANGE + [0, (), [0, 1], (0,), (0, 1, 0), (0, 2), (2, 0), (-1, 0), (0, True), (False, 1), (0, 1.0), "01",
                        ((0, 1),), (0, "1")]


def told_solutions(graph, tables):
    return [nth_solution(graph, tables, index) for index in range(count_solutions(graph, tables))]


class GraphTest(Case):
    def test_ordinary_graphs(self):
        for graph in (GRAPH, BARE, LARGE, (2, ((),), ()), (3, ((0, 2, 5),), ()), (2, ((0,), (0,), (0,)), ((0, 2),))):
            self.assertIs(True, is_graph(graph), graph)

    def test_samples(self):
        for graph, tables in samples(100):
            self.assertIs(True, is_graph(graph), graph)
            self.assertIs(True, are_tables(graph, tables))

    def test_values(self):
        for values in range(-1, 6):
            self.assertIs(values in (2, 3), is_graph((values, ((0,),), ())), values)

    def test_one_to_five_nodes(self):
        for many in range(8):
            self.assertIs(1 <= many <= 5, is_graph((2, ((0,),) * many, ())), many)

    def test_scopes(self):
        for many in range(5):
            for scope in itertools.product(range(-1, 7), repeat=many):
                self.assertIs(scope in all_some(3), is_graph((2, ((0,), scope), ())), scope)

    def test_edges(self):
        pairs = list(itertools.product(range(-1, 4), repeat=2))
        valid = [(0, 1), (0, 2), (1, 2)]
        for edges in itertools.chain(itertools.product(pairs, repeat=1), itertools.product(pairs, repeat=2)):
            right = all(edge in valid for edge in edges) and (len(edges) == 1 or edges[0] < edges[1])
            self.assertIs(right, is_graph((2, ((), (0,), (1,)), edges)), edges)
        for edges in itertools.permutations(valid):
            self.assertIs(edges == tuple(valid), is_graph((2, ((), (0,), (1,)), edges)), edges)

    def test_every_value_is_valid(self):
        for value in WRONG_GRAPHS:
            told = repr(value)
            self.assertIs(False, is_graph(value), value)
            self.assertEqual(told, repr(value))


class TablesTest(Case):
    def test_ordinary_tables(self):
        for tables in (TABLES, ((), (), ()), (TABLES[0], (), TABLES[2])):
            self.assertIs(True, are_tables(GRAPH, tables), tables)
        self.assertIs(True, are_tables(BARE, ((((), 100),), ())))
        for cost in (-1, 0, 100, 101):
            self.assertIs(0 <= cost <= 100, are_tables(LARGE, full_tables(LARGE, cost)), cost)
            self.assertIs(0 <= cost <= 100, are_tables(BARE, ((), (((), cost),))), cost)

    def test_every_value_is_valid(self):
        for value in WRONG_TABLES:
            told = repr(value)
            self.assertIs(False, are_tables(GRAPH, value), value)
            self.assertEqual(told, repr(value))
        self.assertIs(False, are_tables(BARE, TABLES[:2]))
        self.assertIs(False, are_tables(BARE, ((((), 1), ((), 2)), ())))

    def test_each_table_is_of_its_own_scope(self):
        graph = (3, ((0,), (1, 2)), ())
        one, other = (((2,), 1),), (((2, 2), 1),)
        told = [are_tables(graph, pair) for pair in itertools.product((one, other), repeat=2)]
        self.assertEqual([False, True, False, False], told)
        self.assertIs(False, are_tables((2,) + graph[1:], (one, other)))


class VariablesTest(Case):
    def test_all_that_are_in_some_scope(self):
        self.assert_same((0, 1), self.assert_leaves_arguments(variables, GRAPH))
        self.assert_same((), variables(BARE))
        self.assert_same((0, 1, 2, 3, 4, 5), variables(LARGE))
        self.assert_same((1, 2, 4, 5), variables((2, ((4, 5), (), (1, 2, 5)), ())))

    def test_samples(self):
        for graph, _ in samples(60):
            told = tuple(variable for variable in range(6) if any(variable in scope for scope in graph[1]))
            self.assert_same(told, variables(graph))

    def test_wrong_arguments(self):
        self.assert_refuses(variables, (GRAPH,), [("graph", WRONG_GRAPHS)])


class SolutionsTest(Case):
    def test_example(self):
        self.assert_same(2, self.assert_leaves_arguments(count_solutions, GRAPH, TABLES))
        self.assert_same(((0, 1), 3), self.assert_leaves_arguments(nth_solution, GRAPH, TABLES, 0))
        self.assert_same(((1, 1), 5), nth_solution(GRAPH, TABLES, 1))
        self.assert_same(0, self.assert_leaves_arguments(index_of_solution, GRAPH, TABLES, (0, 1)))
        self.assert_same(1, index_of_solution(GRAPH, TABLES, (1, 1)))

    def test_by_the_words_of_the_document(self):
        counts = []
        for graph, tables in samples(150):
            told = plain_solutions(graph, tables)
            self.assert_same(len(told), count_solutions(graph, tables))
            self.assert_same(told, told_solutions(graph, tables))
            counts.append(len(told))
        self.assertTrue(0 in counts and 1 in counts and max(counts) > 100, counts)

    def test_index_of_each_full_row(self):
        for graph, tables in samples(40):
            rows = [row for row, _ in plain_solutions(graph, tables)]
            for row in all_rows(graph[0], variables(graph)):
                told = rows.index(row) if row in rows else None
                self.assert_same(told, index_of_solution(graph, tables, row))

    def test_ascending_rows(self):
        graph = (3, ((2,), (0, 2)), ())
        tables = tuple(tuple((row, 1) for row in all_rows(3, scope)) for scope in graph[1])
        rows = [row for row, _ in told_solutions(graph, tables)]
        self.assertEqual(all_rows(3, (0, 2)), rows)

    def test_no_variables(self):
        one, other = (((), 3),), (((), 100),)
        self.assert_same(1, count_solutions(BARE, (one, other)))
        self.assert_same(((), 103), nth_solution(BARE, (one, other), 0))
        self.assert_same(0, index_of_solution(BARE, (one, other), ()))
        for tables in ((one, ()), ((), other), ((), ())):
            self.assert_same(0, count_solutions(BARE, tables))
            self.assert_same(None, index_of_solution(BARE, tables, ()))
        single = (3, ((),), ())
        self.assert_same(((), 0), nth_solution(single, ((((), 0),),), 0))

    def test_an_empty_table(self):
        for at in range(3):
            tables = TABLES[:at] + ((),) + TABLES[at + 1:]
            self.assert_same(0, count_solutions(GRAPH, tables))
            for row in all_rows(2, (0, 1)):
                self.assert_same(None, index_of_solution(GRAPH, tables, row))

    def test_all_rows_of_a_large_graph(self):
        for cost in (0, 100):
            tables = full_tables(LARGE, cost)
            self.assert_same(729, count_solutions(LARGE, tables))
            self.assert_same(((0,) * 6, 5 * cost), nth_solution(LARGE, tables, 0))
            self.assert_same(((2,) * 6, 5 * cost), nth_solution(LARGE, tables, 728))
            self.assert_same(728, index_of_solution(LARGE, tables, (2,) * 6))
            self.assert_raises_index(LARGE, tables, 729)

    def assert_raises_index(self, graph, tables, index):
        wrong = [("graph", [None]), ("tables", [None]), ("index", [index])]
        self.assert_refuses(nth_solution, (graph, tables, 0), wrong)

    def test_index_from_0_to_the_last_one(self):
        for graph, tables in samples(30):
            self.assert_raises_index(graph, tables, -1)
            self.assert_raises_index(graph, tables, count_solutions(graph, tables))

    def test_wrong_arguments(self):
        wrong = [("graph", WRONG_GRAPHS), ("tables", WRONG_TABLES)]
        self.assert_refuses(count_solutions, (GRAPH, TABLES), wrong)
        self.assert_refuses(nth_solution, (GRAPH, TABLES, 0), wrong + [("index", STRANGE + [2, 3, -1, -2, (0,), 1.0])])
        self.assert_refuses(index_of_solution, (GRAPH, TABLES, (0, 1)), wrong + [("row", WRONG_ROWS)])
        self.assert_refuses(index_of_solution, (BARE, ((), ()), ()), [
            ("graph", [None]), ("tables", [TABLES]), ("row", STRANGE + [(0,), 0])])


class RejectingTest(Case):
    def test_example(self):
        self.assert_same(2, self.assert_leaves_arguments(rejecting, GRAPH, TABLES, (0, 0)))
        self.assert_same(1, rejecting(GRAPH, TABLES, (1, 0)))
        self.assert_same([None, None], [rejecting(GRAPH, TABLES, row) for row in ((0, 1), (1, 1))])

    def test_the_first_node_shows_it(self):
        for graph, tables in samples(40):
            some = variables(graph)
            for row in all_rows(graph[0], some):
                rejected = [node for node, scope in enumerate(graph[1])
                            if restricted(some, row, scope) not in dict(tables[node])]
                told = rejecting(graph, tables, row)
                self.assert_same(rejected[0] if rejected else None, told)
                self.assertEqual(told is None, index_of_solution(graph, tables, row) is not None)

    def test_no_variables(self):
        one = (((), 3),)
        told = [rejecting(BARE, tables, ()) for tables in ((one, one), (one, ()), ((), one), ((), ()))]
        self.assert_same([None, 1, 0, 0], told)

    def test_wrong_arguments(self):
        wrong = [("graph", WRONG_GRAPHS), ("tables", WRONG_TABLES), ("row", WRONG_ROWS)]
        self.assert_refuses(rejecting, (GRAPH, TABLES, (0, 1)), wrong)
        self.assert_refuses(rejecting, (BARE, ((), ()), ()), [
            ("graph", [None]), ("tables", [TABLES]), ("row", STRANGE + [(0,), 0])])


class ChangesTest(Case):
    """Point 26."""

    def test_other_edges(self):
        for graph, tables in samples(20):
            pairs = list(itertools.combinations(range(len(graph[1])), 2))
            told = told_solutions(graph, tables)
            for edges in ((), tuple(pairs), tuple(pairs[::2])):
                self.assert_same(told, told_solutions(graph[:2] + (edges,), tables))

    def test_rows_of_a_node_that_cost_more(self):
        for graph, tables in samples(20):
            for node in range(len(tables)):
                cheap = tuple((row, cost // 2) for row, cost in tables[node])
                dear = tuple((row, cost + 40) for row, cost in cheap)
                before, behind = [tables[:node] + (table,) + tables[node + 1:] for table in (cheap, dear)]
                told = [(row, cost + 40) for row, cost in told_solutions(graph, before)]
                self.assert_same(told, told_solutions(graph, behind))

    def test_a_divided_table(self):
        for graph, tables in samples(20):
            for node in range(len(tables)):
                parts = [told_solutions(graph, tables[:node] + (tables[node][start::2],) + tables[node + 1:])
                         for start in (0, 1)]
                self.assertEqual([], [solution for solution in parts[0] if solution in parts[1]])
                self.assert_same(told_solutions(graph, tables), sorted(parts[0] + parts[1]))


class ExampleTest(Case):
    def test_interface(self):
        told = is_graph(GRAPH), are_tables(GRAPH, TABLES), variables(GRAPH), count_solutions(GRAPH, TABLES)
        self.assert_same((True, True, (0, 1), 2), told)
        told = (nth_solution(GRAPH, TABLES, 0), nth_solution(GRAPH, TABLES, 1),
                index_of_solution(GRAPH, TABLES, (0, 0)) is None)
        self.assert_same((((0, 1), 3), ((1, 1), 5), True), told)
        told = (rejecting(GRAPH, TABLES, (0, 0)), rejecting(GRAPH, TABLES, (1, 0)),
                rejecting(GRAPH, TABLES, (1, 1)) is None)
        self.assert_same((2, 1, True), told)


if __name__ == "__main__":
    unittest.main()
