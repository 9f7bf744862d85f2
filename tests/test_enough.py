"""Points 1 to 8 and 100 to 106 as far as they speak of tabletalk.enough: nodes that are enough, and needed ones."""

import itertools

from tabletalk.enough import is_enough, needed, smallest_enough
from tabletalk.errors import BadValue
from tabletalk.solutions import variables
from tests.support import (BARE, GRAPH, LARGE, STRANGE, TABLES, WRONG_GRAPHS, WRONG_TABLES, Case, Numbers, full_tables,
                           plain_solutions, samples, some_of)

PAIR = (2, ((0, 1), (1,)), ((0, 1),))
ROWS = ((((0, 0), 2), ((1, 1), 5)), (((1,), 1),))
NOTHING = (ROWS[0], ())
WRONG_VARIABLES = STRANGE + [2, 5, 6, -1, (0,), [0], 0.0, "0"]
WRONG_VALUES = STRANGE + [2, 3, -1, (0,), [0], 1.0, "1"]
WRONG_NODES = STRANGE + [0, 1, (3,), (-1,), (0, 3), (1, 0), (0, 0), (0, 1, 1), (0, 1, 2, 3), [0], [0, 1], {0}, {0: 1},
                         (0, True), (False, 1), (0, 1.0), (0, "1"), ((0,),), (0, None), "01", range(2)]
START = [("graph", WRONG_GRAPHS), ("tables", WRONG_TABLES)]
END = [("variable", WRONG_VARIABLES), ("value", WRONG_VALUES)]


def questions(graph):
    return [(variable, value) for variable in variables(graph) for value in range(graph[0])]


def plain_enough(graph, tables):
    """For each question the list of all nodes that are enough for it, by point 100, word by word."""
    found = {asked: [] for asked in questions(graph)}
    for nodes in some_of(range(len(graph[1]))):
        alone = graph[0], tuple(graph[1][node] for node in nodes), ()
        some = sorted({variable for scope in alone[1] for variable in scope})
        rows = [dict(zip(some, row)) for row, _ in plain_solutions(alone, tuple(tables[node] for node in nodes))]
        for variable, value in found:
            if all(row.get(variable) == value for row in rows):
                found[variable, value].append(nodes)
    return found


class IsEnoughTest(Case):
    def test_example(self):
        self.assertIs(False, self.assert_leaves_arguments(is_enough, PAIR, ROWS, (0,), 0, 1))
        self.assertIs(True, is_enough(PAIR, ROWS, (0, 1), 0, 1))
        self.assertIs(True, is_enough(PAIR, ROWS, (1,), 1, 1))

    def test_no_nodes_and_all_nodes(self):
        for graph, tables in ((PAIR, ROWS), (PAIR, NOTHING), (PAIR, ((), ())), (LARGE, ((),) * 5)):
            for asked in questions(graph):
                self.assertIs(False, is_enough(graph, tables, (), *asked))
        # Point 104: without a solution all nodes together are enough.
        for graph, tables in ((PAIR, NOTHING), (PAIR, ((), ())), (LARGE, full_tables(LARGE, 1)[:4] + ((),)),
                              (PAIR, ((((0, 0), 2),), (((1,), 1),)))):
            for asked in questions(graph):
                self.assertIs(True, is_enough(graph, tables, tuple(range(len(graph[1]))), *asked))

    def test_the_variable_in_none_of_the_scopes(self):
        self.assertIs(False, is_enough(PAIR, ROWS, (1,), 0, 1))
        self.assertIs(True, is_enough(PAIR, NOTHING, (1,), 0, 1))
        # Two nodes that have no row together are enough for a question about any variable.
        three = (2, ((0,), (0,), (1,)), ())
        tables = ((((0,), 0),), (((1,), 0),), (((0,), 0), ((1,), 0)))
        self.assertIs(True, is_enough(three, tables, (0, 1), 1, 0))
        self.assertIs(True, is_enough(three, tables, (0, 1), 0, 1))
        self.assertIs(False, is_enough(three, tables, (0, 2), 1, 0))
        self.assertIs(False, is_enough(three, tables, (2,), 0, 0))
        self.assertIs(True, is_enough(three, tables, (1, 2), 0, 1))

    def test_rows_of_these_nodes_alone(self):
        # That the other node has no row for it is nothing that these nodes know.
        self.assertIs(False, is_enough(GRAPH, TABLES, (0, 1), 1, 1))
        self.assertIs(True, is_enough(GRAPH, TABLES, (2,), 1, 1))
        self.assertIs(False, is_enough(GRAPH, TABLES, (0, 1, 2), 0, 1))

    def test_by_the_words_of_the_document(self):
        """Also: with more nodes those that are enough stay so, and all solutions have the value."""
        seen = [0, 0]
        for graph, tables in samples(60):
            for asked, right in plain_enough(graph, tables).items():
                for nodes in some_of(range(len(graph[1]))):
                    told = is_enough(graph, tables, nodes, *asked)
                    self.assertIs(nodes in right, told)
                    seen[told] += 1
                for nodes in right:
                    for more in some_of(range(len(graph[1]))):
                        self.assertTrue(not set(nodes) <= set(more) or more in right)
                if right:
                    at = variables(graph).index(asked[0])
                    self.assertTrue(all(row[at] == asked[1] for row, _ in plain_solutions(graph, tables)))
        self.assertLess(1000, min(seen))

    def test_tables_that_lose_rows(self):
        """Point 102: nodes that are enough stay so."""
        numbers = Numbers(100)
        for graph, tables in samples(40):
            fewer = tuple(tuple(item for item in table if numbers.below(4)) for table in tables)
            after = plain_enough(graph, fewer)
            for asked, right in plain_enough(graph, tables).items():
                for nodes in right:
                    self.assertIn(nodes, after[asked])
                    self.assertIs(True, is_enough(graph, fewer, nodes, *asked))

    def test_wrong_arguments(self):
        self.assert_refuses(is_enough, (GRAPH, TABLES, (0, 2), 0, 1), START + [("nodes", WRONG_NODES)] + END)
        self.assert_refuses(is_enough, (GRAPH, TABLES, (), 0, 1), [("graph", [None]), ("tables", [()])] + [
            ("nodes", [[], None, 0])] + END)


class SmallestEnoughTest(Case):
    def test_example(self):
        self.assert_same((1,), self.assert_leaves_arguments(smallest_enough, PAIR, ROWS, 1, 1))
        self.assert_same((0, 1), smallest_enough(PAIR, ROWS, 0, 1))

    def test_none(self):
        for asked in ((0, 0), (1, 0)):
            self.assert_same(None, smallest_enough(PAIR, ROWS, *asked))
        self.assert_same(None, smallest_enough(GRAPH, TABLES, 0, 1))
        for asked in questions(LARGE):
            self.assert_same(None, smallest_enough(LARGE, full_tables(LARGE, 1), *asked))

    def test_the_fewest_and_of_these_the_first(self):
        graph = (2, ((0, 1), (1,), (0,), (0,)), ())
        tables = (ROWS[0], ROWS[1], (((1,), 0),), (((1,), 0),))
        self.assert_same((2,), smallest_enough(graph, tables, 0, 1))
        self.assert_same((0, 1), smallest_enough((2, graph[1][:2], ()), tables[:2], 0, 1))
        self.assert_same((1,), smallest_enough(graph, tables, 1, 1))
        open_table = (((0,), 0), ((1,), 0))
        self.assert_same((0, 1), smallest_enough(graph, tables[:2] + (open_table,) * 2, 0, 1))
        self.assert_same((3,), smallest_enough(graph, tables[:2] + (open_table, tables[3]), 0, 1))
        # The pair (0, 3) comes ahead of (1, 2), where no node alone is enough.
        pairs = (2, ((0, 1), (0, 2), (2,), (1,)), ())
        alike = (((0, 0), 0), ((1, 1), 0))
        self.assert_same((0, 3), smallest_enough(pairs, (alike, alike, (((1,), 0),), (((1,), 0),)), 0, 1))
        self.assert_same((1, 2), smallest_enough(pairs, (alike, alike, (((1,), 0),), open_table), 0, 1))

    def test_an_empty_table(self):
        for asked in questions(PAIR):
            self.assert_same((1,), smallest_enough(PAIR, NOTHING, *asked))
            self.assert_same((0,), smallest_enough(PAIR, ((), ()), *asked))

    def test_all_five_nodes(self):
        chain = (2, ((0, 1), (1, 2), (2, 3), (3, 4), (4,)), ())
        alike = (((0, 0), 0), ((1, 1), 0))
        self.assert_same((0, 1, 2, 3, 4), smallest_enough(chain, (alike,) * 4 + ((((0,), 0),),), 0, 0))
        self.assert_same(None, smallest_enough(chain, (alike,) * 4 + ((((0,), 0),),), 0, 1))

    def test_by_the_words_of_the_document(self):
        found = set()
        for graph, tables in samples(60):
            for asked, right in plain_enough(graph, tables).items():
                told = smallest_enough(graph, tables, *asked)
                self.assert_same(min(right, key=lambda nodes: (len(nodes), nodes)) if right else None, told)
                found.add(told)
        self.assertLess(8, len(found))

    def test_wrong_arguments(self):
        self.assert_refuses(smallest_enough, (GRAPH, TABLES, 0, 1), START + END)


class NeededTest(Case):
    def test_example(self):
        self.assert_same((0, 1), self.assert_leaves_arguments(needed, PAIR, ROWS, 0, 1))
        self.assert_same((1,), needed(PAIR, ROWS, 1, 1))

    def test_none(self):
        for asked in ((0, 0), (1, 0)):
            self.assert_same(None, needed(PAIR, ROWS, *asked))
        self.assert_same(None, needed(GRAPH, TABLES, 0, 1))

    def test_no_node_that_is_needed(self):
        for asked in questions(PAIR):
            self.assert_same((), needed(PAIR, ((), ()), *asked))
        twice = (2, ((0,), (0,)), ())
        self.assert_same((), needed(twice, ((((1,), 0),),) * 2, 0, 1))
        self.assert_same((1,), needed(twice, ((((0,), 0), ((1,), 0)), (((1,), 0),)), 0, 1))

    def test_a_single_node(self):
        single = (3, ((4,),), ())
        self.assert_same((0,), needed(single, ((((2,), 5),),), 4, 2))
        self.assert_same((0,), needed(single, ((),), 4, 2))
        self.assert_same(None, needed(single, ((((2,), 5),),), 4, 1))

    def test_by_the_words_of_the_document(self):
        found = set()
        for graph, tables in samples(60):
            nodes = range(len(graph[1]))
            for asked, right in plain_enough(graph, tables).items():
                told = needed(graph, tables, *asked)
                among_all = tuple(node for node in nodes if all(node in each for each in right))
                self.assert_same(among_all if right else None, told)
                # Point 101: all nodes together are enough if and only if each solution has the value.
                at = variables(graph).index(asked[0])
                rows = [row for row, _ in plain_solutions(graph, tables)]
                self.assertIs(all(row[at] == asked[1] for row in rows), told is not None)
                if told is not None:
                    self.assertEqual(told, tuple(node for node in nodes if not is_enough(
                        graph, tables, tuple(other for other in nodes if other != node), *asked)))
                found.add(told)
        self.assertLess(8, len(found))

    def test_wrong_arguments(self):
        self.assert_refuses(needed, (GRAPH, TABLES, 0, 1), START + END)

    def test_no_variables(self):
        for function in (smallest_enough, needed):
            for tables in (((), ()), ((((), 1),),) * 2):
                for asked in itertools.product((0, 5), (0, 1, 2)):
                    self.assert_raises_with(BadValue, "name", "variable", function, BARE, tables, *asked)


class ExampleTest(Case):
    def test_point_106(self):
        self.assertIs(True, is_enough(PAIR, ROWS, (1,), 1, 1))
        self.assert_same((0, 1), needed(PAIR, ROWS, 0, 1))
