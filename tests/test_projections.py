"""Points 1 to 8 and 21 to 27 as far as tabletalk.projections tells them: projections of solutions."""

import itertools

from tabletalk.joins import join, project
from tabletalk.projections import part_projection, projection
from tabletalk.solutions import count_solutions, variables
from tabletalk.tables import is_message
from tests.support import (BARE, GRAPH, LARGE, STRANGE, TABLES, WRONG_GRAPHS, WRONG_TABLES, Case, Numbers, all_rows,
                           full_tables, plain_projection, plain_solutions, samples, some_of)

WRONG_SOME = STRANGE + [0, [0], [0, 1], (1, 0), (0, 0), (0, 1, 1), (2,), (0, 2), (5,), (6,), (-1,), (-1, 0), (False,),
                        (0, True), (0, 1, 2, 3, 4, 5, 6), ((0,),), (0, None), (0, "1"), (0, 1.0), "01", {0: 1}]
WRONG_NODES = STRANGE + [0, (), [0], [0, 1], (1, 0), (0, 0), (0, 1, 1), (3,), (0, 3), (-1,), (-1, 0), (False,),
                         (0, True), (0, 1, 2, 3), ((0,),), (0, None), (0, "1"), (0, 1.0), "01", {0: 1}]


def whole_message(graph, tables):
    """The solutions as a message over all variables, by the words of the document."""
    return tuple((row, 1, cost) for row, cost in plain_solutions(graph, tables))


def alone(graph, tables, nodes):
    """The graph that has these nodes alone, and its tables."""
    return (graph[0], tuple(graph[1][node] for node in nodes), ()), tuple(tables[node] for node in nodes)


def sets_of_nodes(graph):
    nodes = range(len(graph[1]))
    return [some for many in range(1, len(nodes) + 1) for some in itertools.combinations(nodes, many)]


class ProjectionTest(Case):
    def test_example(self):
        self.assert_same((((0,), 1, 3), ((1,), 1, 5)), self.assert_leaves_arguments(projection, GRAPH, TABLES, (0,)))
        self.assert_same((((1,), 2, 3),), projection(GRAPH, TABLES, (1,)))
        self.assert_same((((), 2, 3),), projection(GRAPH, TABLES, ()))
        self.assert_same((((0, 1), 1, 3), ((1, 1), 1, 5)), projection(GRAPH, TABLES, (0, 1)))

    def test_by_the_words_of_the_document(self):
        for graph, tables in samples(60):
            whole = whole_message(graph, tables)
            for some in some_of(variables(graph)):
                told = projection(graph, tables, some)
                self.assert_same(plain_projection(variables(graph), whole, some), told)
                self.assertTrue(is_message(graph[0], some, told))

    def test_all_rows_of_a_large_graph(self):
        tables = full_tables(LARGE, 100)
        rows = tuple((row, 1, 500) for row in all_rows(3, range(6)))
        self.assert_same(rows, projection(LARGE, tables, (0, 1, 2, 3, 4, 5)))
        self.assert_same((((), 729, 500),), projection(LARGE, tables, ()))
        self.assert_same((((0,), 243, 500), ((1,), 243, 500), ((2,), 243, 500)), projection(LARGE, tables, (4,)))
        self.assert_same((((), 729, 0),), projection(LARGE, full_tables(LARGE, 0), ()))

    def test_no_rows(self):
        for at in range(3):
            for some in ((), (0,), (0, 1)):
                self.assert_same((), projection(GRAPH, TABLES[:at] + ((),) + TABLES[at + 1:], some))

    def test_no_variables(self):
        one, other = (((), 3),), (((), 100),)
        self.assert_same((((), 1, 103),), projection(BARE, (one, other), ()))
        for tables in ((one, ()), ((), other), ((), ())):
            self.assert_same((), projection(BARE, tables, ()))
        self.assert_same((((), 1, 0),), projection((3, ((),), ()), ((((), 0),),), ()))

    def test_edges_change_nothing(self):
        for graph, tables in samples(10):
            for some in some_of(variables(graph)):
                told = projection(graph[:2] + ((),), tables, some)
                self.assert_same(projection(graph, tables, some), told)

    def test_a_projection_of_a_projection(self):
        """Point 23."""
        for graph, tables in samples(30):
            whole = projection(graph, tables, variables(graph))
            for some in some_of(variables(graph)):
                told = projection(graph, tables, some)
                self.assert_same(told, project(graph[0], variables(graph), whole, some))
                self.assert_same(count_solutions(graph, tables), sum(count for _, count, _ in told))
                for kept in some_of(some):
                    self.assert_same(projection(graph, tables, kept), project(graph[0], some, told, kept))

    def test_wrong_arguments(self):
        wrong = [("graph", WRONG_GRAPHS), ("tables", WRONG_TABLES), ("some", WRONG_SOME)]
        self.assert_refuses(projection, (GRAPH, TABLES, (0,)), wrong)
        self.assert_refuses(projection, (BARE, ((), ()), ()), [
            ("graph", [None]), ("tables", [TABLES]), ("some", WRONG_SOME + [(0,), (1,)])])
        self.assert_refuses(projection, ((2, ((1, 4),), ()), ((),), (1, 4)), [
            ("graph", [None]), ("tables", [()]), ("some", [(0,), (0, 1), (1, 2), (1, 4, 5), (4, 1)])])


class PartProjectionTest(Case):
    def test_example(self):
        told = self.assert_leaves_arguments(part_projection, GRAPH, TABLES, (0, 1), (1,))
        self.assert_same((((0,), 1, 1), ((1,), 2, 3)), told)
        self.assert_same((((1,), 1, 0),), part_projection(GRAPH, TABLES, (2,), (1,)))
        self.assert_same((((), 1, 0),), part_projection(GRAPH, TABLES, (2,), ()))
        self.assert_same((((0, 1), 1, 3), ((1, 1), 1, 5)), part_projection(GRAPH, TABLES, (0, 1, 2), (0, 1)))

    def test_the_graph_that_has_these_nodes_alone(self):
        """Point 24."""
        for graph, tables in samples(40):
            for nodes in sets_of_nodes(graph):
                less, kept = alone(graph, tables, nodes)
                whole = whole_message(less, kept)
                for some in some_of(variables(less))[::3]:
                    told = part_projection(graph, tables, nodes, some)
                    self.assert_same(plain_projection(variables(less), whole, some), told)
                    self.assertTrue(is_message(graph[0], some, told))

    def test_all_nodes(self):
        for graph, tables in samples(20):
            for some in some_of(variables(graph)):
                told = part_projection(graph, tables, tuple(range(len(graph[1]))), some)
                self.assert_same(projection(graph, tables, some), told)

    def test_other_nodes_are_not_asked(self):
        self.assert_same((((0,), 1, 1), ((1,), 1, 0)), part_projection(GRAPH, (TABLES[0], (), ()), (0,), (0,)))
        self.assert_same((), part_projection(GRAPH, (TABLES[0], (), ()), (0, 2), (0, 1)))
        self.assert_same((((), 1, 3),), part_projection(BARE, ((), (((), 3),)), (1,), ()))

    def test_two_parts(self):
        """Point 25."""
        counts = []
        for graph, tables in samples(60):
            everything = tuple(range(len(graph[1])))
            for nodes in sets_of_nodes(graph)[:-1]:
                others = tuple(node for node in everything if node not in nodes)
                both = tuple(sorted(set(variables(alone(graph, tables, nodes)[0]))
                                    & set(variables(alone(graph, tables, others)[0]))))
                here = part_projection(graph, tables, nodes, both)
                there = part_projection(graph, tables, others, both)
                told = projection(graph, tables, both)
                self.assert_same(join(graph[0], both, here, both, there), told)
                counts.append(len(told))
        self.assertLess(3, max(counts))

    def test_gathered_by_hand(self):
        graph = (3, ((0, 1), (1, 2), (4,)), ())
        tables = ((((0, 1), 4), ((1, 1), 3), ((2, 2), 9)), (((1, 0), 2), ((1, 2), 1), ((2, 2), 7)), (((0,), 5),))
        self.assert_same((((1,), 2, 3), ((2,), 1, 9)), part_projection(graph, tables, (0,), (1,)))
        self.assert_same((((1,), 4, 4), ((2,), 1, 16)), part_projection(graph, tables, (0, 1), (1,)))
        self.assert_same((((0,), 2, 5), ((2,), 3, 4)), part_projection(graph, tables, (0, 1), (2,)))
        self.assert_same((((0,), 3, 8),), part_projection(graph, tables, (0, 2), (4,)))
        self.assert_same((((0,), 2, 10), ((1,), 2, 9), ((2,), 1, 21)),
                         part_projection(graph, tables, (0, 1, 2), (0,)))

    def test_wrong_arguments(self):
        wrong = [("graph", WRONG_GRAPHS), ("tables", WRONG_TABLES), ("nodes", WRONG_NODES), ("some", WRONG_SOME)]
        self.assert_refuses(part_projection, (GRAPH, TABLES, (0, 1), (0,)), wrong)

    def test_variables_of_other_nodes(self):
        for nodes, some in (((0,), (1,)), ((0,), (0, 1)), ((2,), (0,)), ((2,), (0, 1))):
            self.assert_refuses(part_projection, (GRAPH, TABLES, nodes, ()), [
                ("graph", [None]), ("tables", [()]), ("nodes", [()]), ("some", [some])])
        self.assert_same((), part_projection(GRAPH, ((), (), ()), (0, 2), (0, 1)))
        self.assert_refuses(part_projection, (BARE, ((), ()), (1,), ()), [
            ("graph", [None]), ("tables", [TABLES]), ("nodes", [(2,), (0, 1, 2)]), ("some", [(0,), (5,)])])

    def test_five_nodes(self):
        tables = full_tables(LARGE, 1)
        numbers = Numbers(4)
        for nodes in sets_of_nodes(LARGE):
            some = numbers.among(some_of(variables(alone(LARGE, tables, nodes)[0])))
            whole = 3 ** len(variables(alone(LARGE, tables, nodes)[0]))
            told = tuple((row, whole // 3 ** len(some), len(nodes)) for row in all_rows(3, some))
            self.assert_same(told, part_projection(LARGE, tables, nodes, some))
        self.assert_refuses(part_projection, (LARGE, tables, (4,), (0, 5)), [
            ("graph", [None]), ("tables", [TABLES]), ("nodes", [(5,), (0, 1, 2, 3, 4, 5), (4, 5)]),
            ("some", [(1,), (0, 1, 5)])])
