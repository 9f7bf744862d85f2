"""Points 1 to 8, 29, 30 and 35 to 39 as far as tabletalk.graphs tells them: ways, junction trees, the two counts."""

import itertools

from tabletalk.graphs import is_junction_tree, shared_variables, told_way, two_counts
from tests.support import (BARE, GRAPH, LARGE, WRONG_GRAPHS, WRONG_NODES, Case, Numbers, many_graphs, plain_cycles,
                           plain_is_junction_tree, plain_nodes_with, plain_shared, plain_ways, renamed, renumbered,
                           sample_tree, shuffled)

ROW = (2, ((0, 1), (1, 2), (0, 2)), ((0, 1), (1, 2)))
RING = (2, ((0, 1), (1, 2), (0, 2)), ((0, 1), (0, 2), (1, 2)))


def trees(many):
    numbers = Numbers(33)
    for _ in range(many):
        yield sample_tree(numbers)


class SharedVariablesTest(Case):
    def test_those_in_both_scopes(self):
        self.assert_same((0,), self.assert_leaves_arguments(shared_variables, ROW, 0, 2))
        self.assert_same((1,), shared_variables(ROW, 0, 1))
        self.assert_same((2,), shared_variables(ROW, 2, 1))
        self.assert_same((), shared_variables(GRAPH, 0, 2))
        self.assert_same((), shared_variables(BARE, 0, 1))
        self.assert_same((1, 4, 5), shared_variables((3, ((1, 4, 5), (1, 4, 5)), ()), 1, 0))
        self.assert_same((1, 5), shared_variables((3, ((1, 4, 5), (0, 1, 5)), ()), 0, 1))

    def test_of_a_node_and_itself(self):
        for graph in (GRAPH, BARE, LARGE, ROW, (2, ((2, 3, 5),), ())):
            for node, scope in enumerate(graph[1]):
                self.assert_same(scope, shared_variables(graph, node, node))

    def test_by_the_words_of_the_document(self):
        for graph in trees(40):
            for one, other in itertools.product(range(len(graph[1])), repeat=2):
                told = shared_variables(graph, one, other)
                self.assert_same(plain_shared(graph, one, other), told)
                self.assert_same(told, shared_variables(graph, other, one))

    def test_wrong_arguments(self):
        wrong = [("graph", WRONG_GRAPHS), ("one", WRONG_NODES), ("other", WRONG_NODES)]
        self.assert_refuses(shared_variables, (GRAPH, 0, 1), wrong)
        self.assert_refuses(shared_variables, ((2, ((),), ()), 0, 0), [
            ("graph", [None]), ("one", [1, -1, False]), ("other", [1, -1, False])])


class ToldWayTest(Case):
    def test_example(self):
        self.assert_same((0, 1, 2), self.assert_leaves_arguments(told_way, ROW, 0, 2))
        self.assert_same((2, 1, 0), told_way(ROW, 2, 0))
        self.assert_same((0, 2), told_way(RING, 0, 2))

    def test_a_node_and_itself(self):
        for graph in (GRAPH, BARE, LARGE, RING, (2, ((),), ()), (2, ((), ()), ())):
            for node in range(len(graph[1])):
                self.assert_same((node,), told_way(graph, node, node))

    def test_none(self):
        self.assert_same(None, told_way((2, ((0,), (0,)), ()), 0, 1))
        self.assert_same(None, told_way((2, ((), (), (), ()), ((0, 1), (2, 3))), 3, 0))

    def test_the_first_one_of_those_with_the_fewest_nodes(self):
        bare = ((),) * 5
        square = (2, bare[:4], ((0, 1), (0, 2), (1, 3), (2, 3)))
        self.assert_same([(0, 1, 3), (3, 1, 0), (1, 0, 2), (2, 0, 1)],
                         [told_way(square, *ends) for ends in ((0, 3), (3, 0), (1, 2), (2, 1))])
        # The way over the nodes 1 and 2 is the first one as a tuple, but not one of the shortest.
        long = (2, bare, ((0, 1), (0, 4), (1, 2), (2, 3), (3, 4)))
        self.assert_same([(0, 4, 3), (0, 1, 2), (3, 4, 0)],
                         [told_way(long, *ends) for ends in ((0, 3), (0, 2), (3, 0))])
        row = (2, bare, ((0, 4), (1, 2), (1, 4), (2, 3)))
        self.assert_same((0, 4, 1, 2, 3), told_way(row, 0, 3))

    def test_by_the_words_of_the_document(self):
        for graph in list(many_graphs())[::4]:
            ways = plain_ways(graph)
            for one, other in itertools.product(range(len(graph[1])), repeat=2):
                these = [way for way in ways if way[0] == one and way[-1] == other]
                told = min(these, key=lambda way: (len(way), way)) if these else None
                self.assert_same(told, told_way(graph, one, other))

    def test_wrong_arguments(self):
        wrong = [("graph", WRONG_GRAPHS), ("one", WRONG_NODES), ("other", WRONG_NODES)]
        self.assert_refuses(told_way, (GRAPH, 0, 1), wrong)
        self.assert_refuses(told_way, (LARGE, 4, 0), [
            ("graph", [None]), ("one", [5, -1, True]), ("other", [5, -1, False])])


class JunctionTreeTest(Case):
    def test_example(self):
        for edges in itertools.chain(itertools.combinations(((0, 1), (0, 2), (1, 2)), 2), [(), RING[2]]):
            told = self.assert_leaves_arguments(is_junction_tree, RING[:2] + (tuple(edges),))
            self.assertIs(False, told, edges)

    def test_ordinary_graphs(self):
        trees_of = [GRAPH, BARE, (2, ((),), ()), (3, ((0, 3, 5),), ()), (2, ((0,), (1,)), ((0, 1),)),
                    (2, ((0,),) * 5, ((0, 1), (0, 2), (0, 3), (0, 4))),
                    (2, ((),) * 5, ((0, 4), (1, 4), (2, 3), (2, 4))),
                    (2, ((0, 1), (0,), (1, 2), ()), ((0, 1), (0, 2), (2, 3)))]
        others = [LARGE, ROW, RING, (2, ((0,), (0,)), ()), (2, ((), ()), ()), (2, ((0,), (), (0,)), ((0, 1), (1, 2))),
                  (2, ((),) * 4, ((0, 1), (0, 3), (1, 2), (2, 3))), (2, ((),) * 4, ((0, 1), (0, 2), (1, 2))),
                  (2, ((0,),) * 3, ((0, 1), (0, 2), (1, 2))), (2, ((),) * 5, ((0, 1), (0, 2), (1, 2), (3, 4))),
                  (2, ((0,), (0,), (1,)), ((0, 2), (1, 2)))]
        for graph in trees_of:
            self.assertIs(True, is_junction_tree(graph), graph)
        for graph in others:
            self.assertIs(False, is_junction_tree(graph), graph)

    def test_by_the_words_of_the_document(self):
        found = [0, 0]
        for graph in many_graphs():
            told = plain_is_junction_tree(graph)
            self.assertIs(told, is_junction_tree(graph), graph)
            found[told] += 1
        self.assertLess(200, min(found))

    def test_the_number_of_values_does_not_matter(self):
        for graph in list(many_graphs())[::20]:
            self.assertIs(is_junction_tree((2,) + graph[1:]), is_junction_tree((3,) + graph[1:]))

    def test_wrong_arguments(self):
        self.assert_refuses(is_junction_tree, (GRAPH,), [("graph", WRONG_GRAPHS)])

    def test_renumbered_nodes(self):
        """Point 37."""
        for graph in list(many_graphs())[::25]:
            for names in itertools.permutations(range(len(graph[1]))):
                self.assertIs(is_junction_tree(graph), is_junction_tree(renumbered(graph, names)), (graph, names))

    def test_renamed_variables(self):
        """Point 37."""
        numbers = Numbers(8)
        for graph in list(many_graphs())[::5]:
            names = shuffled(numbers, range(6))
            self.assertIs(is_junction_tree(graph), is_junction_tree(renamed(graph, names)), (graph, names))

    def test_one_way_that_has_what_its_ends_share(self):
        """Point 36."""
        for graph in trees(100):
            ways = plain_ways(graph)
            for one, other in itertools.product(range(len(graph[1])), repeat=2):
                these = [way for way in ways if way[0] == one and way[-1] == other]
                self.assert_same([told_way(graph, one, other)], these)
                for node in these[0]:
                    self.assertLessEqual(set(shared_variables(graph, one, other)), set(graph[1][node]))

    def test_without_a_node_with_a_single_edge(self):
        """Point 36."""
        found = 0
        for graph in trees(100):
            nodes = range(len(graph[1]))
            for node in nodes:
                if len([edge for edge in graph[2] if node in edge]) == 1:
                    # The node becomes the last one, so that it can be left out without another number for the rest.
                    names = [at - (at > node) for at in nodes]
                    names[node] = len(nodes) - 1
                    values, scopes, edges = renumbered(graph, names)
                    less = (values, scopes[:-1], tuple(edge for edge in edges if len(nodes) - 1 not in edge))
                    self.assertIs(True, is_junction_tree(less), (graph, node))
                    found += 1
        self.assertLess(100, found)


class TwoCountsTest(Case):
    def test_example(self):
        self.assert_same((1, 1), self.assert_leaves_arguments(two_counts, ROW))
        self.assert_same((1, 0), two_counts((2, ((0, 1), (0,), (1, 2), ()), ((0, 1), (0, 2), (2, 3)))))
        self.assert_same((0, 0), two_counts(RING))
        self.assert_same((3, 3), two_counts(RING[:2] + ((),)))

    def test_edges(self):
        self.assert_same((1, 0), two_counts((2, ((),), ())))
        self.assert_same((1, 0), two_counts((2, ((1, 3, 5),), ())))
        self.assert_same((5, 0), two_counts((2, ((),) * 5, ())))
        self.assert_same((5, 4), two_counts((2, ((0,),) * 5, ())))
        self.assert_same((-5, 14 - 10 - 6), two_counts(LARGE))
        self.assert_same((-5, 15 - 30 - 3), two_counts((2, ((0, 1, 2),) * 5, LARGE[2])))

    def test_by_the_words_of_the_document(self):
        for graph in many_graphs():
            nodes = len(graph[1]) - len(graph[2])
            in_scopes = sum(len(plain_nodes_with(graph, variable)) for variable in range(6))
            in_edges = sum(len(plain_shared(graph, *edge)) for edge in graph[2])
            number = len([variable for variable in range(6) if plain_nodes_with(graph, variable)])
            self.assert_same((nodes, in_scopes - in_edges - number), two_counts(graph))

    def test_what_they_tell_without_a_cycle(self):
        found = 0
        for graph in many_graphs():
            if not plain_cycles(graph):
                one, other = two_counts(graph)
                self.assertTrue(one >= 1 and other >= 0, graph)
                self.assertIs((one, other) == (1, 0), is_junction_tree(graph), graph)
                found += 1
        self.assertLess(400, found)

    def test_wrong_arguments(self):
        self.assert_refuses(two_counts, (GRAPH,), [("graph", WRONG_GRAPHS)])
