"""Points 1 to 8, 52 to 55 and 58 to 62: deceived nodes, misjudged rows and counterexamples."""

import itertools

from tabletalk.defects import defect
from tabletalk.messages import inconsistent
from tabletalk.rounds import computed_messages
from tabletalk.trust import deceived, is_counterexample, is_trusted, misjudged, told_counterexample
from tests.support import (BARE, GRAPH, LARGE, LESS, NONE, STRANGE, TABLES, TOLD, WRONG_GRAPHS, WRONG_MESSAGES,
                           WRONG_NODES, WRONG_TABLES, Case, Numbers, directions, full_tables, many_graphs,
                           message_samples, plain_computed, plain_cycles, plain_hang_together, plain_is_junction_tree,
                           plain_left, plain_neighbours, plain_nodes_with, plain_projection, plain_reached,
                           plain_solutions, renamed, renumbered, sample_tables, sample_tree, shuffled)

RING = (2, ((0,), (0,), (0,)), ((0, 1), (0, 2), (1, 2)))
ZERO = (((0,), 0),)
ZEROS = (ZERO,) * 3
ZERO_MESSAGE = (((0,), 1, 0),)
EMPTY = ((),) * 6
SPLIT = (2, ((0,), (), (0,)), ((0, 1), (1, 2)))
SPLIT_TABLES = (ZERO, (((), 0),), (((1,), 0),))
APART = (3, ((1,), (2,), ()), ((0, 2),))


def plain_truth(graph, tables, node):
    """The projection of the solutions to the scope of the node, by the words of the document."""
    some = sorted({variable for scope in graph[1] for variable in scope})
    whole = tuple((row, 1, cost) for row, cost in plain_solutions(graph, tables))
    return plain_projection(some, whole, graph[1][node])


def plain_misjudged(graph, tables, messages, node):
    """Point 59, word by word."""
    thought, true = [{row: (count, least) for row, count, least in message} for message in (
        plain_left(graph, tables, messages, node, plain_neighbours(graph, node)), plain_truth(graph, tables, node))]
    return tuple((row, thought.get(row), true.get(row)) for row, _ in tables[node] if thought.get(row) != true.get(row))


def plain_told(graph):
    """The told counterexample of a graph that is no junction tree: point 55, word by word."""
    nodes = tuple(range(len(graph[1])))
    tables = [(((0,) * len(scope), 0),) for scope in graph[1]]
    if not plain_cycles(graph):
        if not plain_hang_together(graph, nodes):
            reached = plain_reached(graph, nodes, 0)
            tables = [table if node in reached else () for node, table in enumerate(tables)]
        else:
            variable = min(variable for variable in range(6)
                           if not plain_hang_together(graph, plain_nodes_with(graph, variable)))
            having = plain_nodes_with(graph, variable)
            for node in having:
                if node not in plain_reached(graph, having, having[0]):
                    tables[node] = ((tuple(int(each == variable) for each in graph[1][node]), 0),)
    return tuple(tables), plain_computed(graph, tuple(tables))


def all_samples(many):
    """Graphs of any kind with tables, and with messages that nobody computed as well as with computed ones."""
    for graph, tables, messages in message_samples(many):
        yield graph, tables, messages
        yield graph, tables, computed_messages(graph, tables)


class DeceivedTest(Case):
    def test_example(self):
        self.assert_same((), self.assert_leaves_arguments(deceived, GRAPH, TABLES, TOLD))
        self.assert_same((0, 1, 2), self.assert_leaves_arguments(deceived, RING, ZEROS, EMPTY))
        self.assert_same((0, 1, 2), deceived(SPLIT, SPLIT_TABLES, computed_messages(SPLIT, SPLIT_TABLES)))

    def test_some_nodes(self):
        # Less than the node 0 said: the nodes that hear of it are deceived, and the node 0 itself is not.
        self.assert_same((1,), deceived(GRAPH, TABLES, LESS))
        self.assert_same((0, 1, 2), deceived(GRAPH, TABLES, NONE))
        self.assert_same((2,), deceived(GRAPH, TABLES, TOLD[:2] + ((((1,), 3, 3),),) + TOLD[3:]))
        self.assert_same((), deceived(GRAPH, TABLES, TOLD[:2] + ((((1,), 2, 3),),) + TOLD[3:]))
        self.assert_same((0,), deceived(GRAPH, TABLES, TOLD[:1] + ((((0,), 1, 2), ((1,), 1, 6)),) + TOLD[2:]))

    def test_counts_and_costs(self):
        for least, told in ((0, (0,)), (1, ()), (10000, (0,))):
            messages = ((((), 1, 0),), (((), 1, least),))
            self.assert_same(told, deceived(BARE, ((((), 0),), (((), 1),)), messages))
        for count, told in ((1, ()), (2, (0,)), (1000000, (0,))):
            messages = ((((), 1, 0),), (((), count, 1),))
            self.assert_same(told, deceived(BARE, ((((), 0),), (((), 1),)), messages))

    def test_one_node_and_no_edges(self):
        for graph in ((2, ((),), ()), (3, ((0, 1, 2),), ())):
            for tables in (full_tables(graph, 7), ((),)):
                self.assert_same((), deceived(graph, tables, ()))
        apart = (2, ((0,), (1,)), ())
        self.assert_same((), deceived(apart, ((), ()), ()))
        self.assert_same((1,), deceived(apart, ((), (((0,), 0),)), ()))
        self.assert_same((), deceived(apart, ((((0,), 0),), (((1,), 0),)), ()))
        self.assert_same((1,), deceived(apart, ((((0,), 1),), (((1,), 0),)), ()))
        self.assert_same((0, 1), deceived(apart, full_tables(apart, 0), ()))

    def test_by_the_words_of_the_document(self):
        found = set()
        for graph, tables, messages in all_samples(60):
            right = []
            for node in range(len(graph[1])):
                thought = plain_left(graph, tables, messages, node, plain_neighbours(graph, node))
                if thought != plain_truth(graph, tables, node):
                    right.append(node)
            self.assert_same(tuple(right), deceived(graph, tables, messages))
            found.add(tuple(right))
        self.assertLess(10, len(found))

    def test_never_in_a_junction_tree(self):
        """Point 53: whatever the tables, if all nodes are consistent."""
        numbers = Numbers(53)
        for _ in range(120):
            graph = sample_tree(numbers)
            tables = sample_tables(numbers, graph)
            messages = computed_messages(graph, tables)
            self.assertEqual((), inconsistent(graph, tables, messages))
            self.assert_same((), deceived(graph, tables, messages))

    def test_wrong_arguments(self):
        wrong = [("graph", WRONG_GRAPHS), ("tables", WRONG_TABLES), ("messages", WRONG_MESSAGES)]
        self.assert_refuses(deceived, (GRAPH, TABLES, TOLD), wrong)


class MisjudgedTest(Case):
    def test_example(self):
        told = self.assert_leaves_arguments(misjudged, RING, ZEROS, EMPTY, 0)
        self.assert_same((((0,), None, (1, 0)),), told)

    def test_believed_and_true(self):
        messages = TOLD[:2] + ((((1,), 3, 4),),) + TOLD[3:]
        tables = TABLES[:2] + ((((0,), 9), ((1,), 0)),)
        right = tables, computed_messages(GRAPH, tables)
        self.assert_same((), misjudged(GRAPH, *right, 2))
        # The row 0 is a solution at 10, and nobody tells the node of it; of the row 1 it is told too much.
        self.assert_same((((0,), None, (1, 10)), ((1,), (3, 4), (2, 3))), misjudged(GRAPH, tables, messages, 2))
        # The row 0 is believed, and it is no solution.
        messages = TOLD[:2] + ((((0,), 1, 2), ((1,), 2, 3)),) + TOLD[3:]
        self.assert_same((((0,), (1, 11), (1, 10)),), misjudged(GRAPH, tables, messages, 2))
        self.assert_same((((0,), (1, 11), None),), misjudged(GRAPH, (tables[0], tables[1][1:], tables[2]), (
            ((((0,), 1, 1), ((1,), 1, 0))), (), (((0,), 1, 2), ((1,), 2, 3)), ()), 2))

    def test_rows_that_are_not_in_the_table(self):
        self.assert_same((), misjudged(GRAPH, ((), (), ()), TOLD, 0))
        self.assert_same((), misjudged(GRAPH, ((), (), ()), TOLD, 1))

    def test_by_the_words_of_the_document(self):
        """Point 59: a node is deceived if and only if some row of its table is misjudged."""
        found = 0
        for graph, tables, messages in all_samples(60):
            wrong = deceived(graph, tables, messages)
            for node in range(len(graph[1])):
                told = misjudged(graph, tables, messages, node)
                self.assert_same(plain_misjudged(graph, tables, messages, node), told)
                self.assertIs(node in wrong, told != (), (graph, tables, messages, node))
                found += len(told)
        self.assertLess(500, found)

    def test_wrong_arguments(self):
        wrong = [("graph", WRONG_GRAPHS), ("tables", WRONG_TABLES), ("messages", WRONG_MESSAGES),
                 ("node", WRONG_NODES)]
        self.assert_refuses(misjudged, (GRAPH, TABLES, TOLD, 0), wrong)
        self.assert_refuses(misjudged, ((2, ((),), ()), ((),), (), 0), [
            ("graph", [None]), ("tables", [()]), ("messages", [((),), []]), ("node", [1, -1, False])])


class IsTrustedTest(Case):
    def test_example(self):
        self.assertIs(False, self.assert_leaves_arguments(is_trusted, RING))
        self.assertIs(True, self.assert_leaves_arguments(is_trusted, GRAPH))

    def test_by_the_words_of_the_document(self):
        """Point 53: a graph is trusted exactly if it is a junction tree, and each other one has a counterexample."""
        for graph in many_graphs():
            told = is_trusted(graph)
            self.assertIs(plain_is_junction_tree(graph), told)
            if not told:
                self.assertIs(True, is_counterexample(graph, told_counterexample(graph)), graph)

    def test_renamed(self):
        """Point 58."""
        numbers = Numbers(58)
        for graph in list(many_graphs())[::15]:
            nodes, names = shuffled(numbers, range(len(graph[1]))), shuffled(numbers, range(6))
            self.assertIs(is_trusted(graph), is_trusted(renamed(renumbered(graph, nodes), names)), graph)
            self.assertIs(is_trusted(graph), is_trusted((5 - graph[0],) + graph[1:]), graph)

    def test_wrong_arguments(self):
        self.assert_refuses(is_trusted, (GRAPH,), [("graph", WRONG_GRAPHS)])


class ToldCounterexampleTest(Case):
    def test_example(self):
        self.assert_same((ZEROS, EMPTY), self.assert_leaves_arguments(told_counterexample, RING))
        self.assert_same(SPLIT_TABLES, told_counterexample(SPLIT)[0])
        self.assert_same(None, told_counterexample((2, ((),), ())))

    def test_none(self):
        for graph in (GRAPH, BARE, (3, ((0, 1, 2),), ()), (2, ((),) * 5, ((0, 4), (1, 4), (2, 3), (2, 4)))):
            self.assert_same(None, told_counterexample(graph))

    def test_a_cycle(self):
        tables = tuple((((0,) * len(scope), 0),) for scope in LARGE[1])
        self.assert_same((tables, ((),) * 20), told_counterexample(LARGE))
        # A cycle comes first, also where the nodes do not hang together and a variable is split.
        both = (2, ((0,), (0, 1), (0,), (2,), (1,)), ((0, 1), (0, 2), (1, 2)))
        self.assert_same(((ZERO, (((0, 0), 0),), ZERO, ZERO, ZERO), EMPTY), told_counterexample(both))

    def test_apart(self):
        tables, messages = told_counterexample(APART)
        self.assert_same((ZERO, (), (((), 0),)), tables)
        self.assert_same(((((), 1, 0),), (((), 1, 0),)), messages)
        self.assert_same(((ZERO, ()), ()), told_counterexample((2, ((0,), (0,)), ())))
        late = (2, ((), (1,), (1,), (0,), (0,)), ((0, 3), (1, 2), (3, 4)))
        self.assert_same(((((), 0),), (), (), ZERO, ZERO), told_counterexample(late)[0])

    def test_split(self):
        self.assert_same(((((), 1, 0),),) * 4, told_counterexample(SPLIT)[1])
        row = ((0, 1), (1, 2), (2, 3), (3, 4))
        # The least variable that is split is 2, and 2 alone becomes 1; the node 1 hangs together with the node 0.
        graph = (3, ((1, 2), (2,), (1, 5), (2, 5), (2, 3, 5)), row)
        told = told_counterexample(graph)[0]
        self.assert_same(((((0, 0), 0),), ZERO, (((1, 0), 0),), (((0, 0), 0),), (((0, 0, 0), 0),)), told)
        graph = (3, ((2,), (2,), (1, 5), (2, 5), (2, 3, 5)), row)
        told = told_counterexample(graph)[0]
        self.assert_same((ZERO, ZERO, (((0, 0), 0),), (((1, 0), 0),), (((1, 0, 0), 0),)), told)
        graph = (2, ((4,), (), (4,), (), (4,)), ((0, 1), (1, 2), (2, 3), (3, 4)))
        told = told_counterexample(graph)[0]
        self.assert_same((ZERO, (((), 0),), (((1,), 0),), (((), 0),), (((1,), 0),)), told)

    def test_by_the_words_of_the_document(self):
        words = {}
        for graph in many_graphs():
            told = told_counterexample(graph)
            if plain_is_junction_tree(graph):
                self.assert_same(None, told)
            else:
                self.assert_same(plain_told(graph), told)
                word = defect(graph)[0]
                words[word] = words.get(word, 0) + 1
        self.assertEqual({"cycle", "apart", "split"}, set(words))
        self.assertLess(30, min(words.values()))

    def test_no_node_sees_it(self):
        """Points 54 and 60."""
        for graph in list(many_graphs())[::3]:
            told = told_counterexample(graph)
            if told is not None:
                self.assert_same((), inconsistent(graph, *told))
                self.assertNotEqual((), deceived(graph, *told))

    def test_wrong_arguments(self):
        self.assert_refuses(told_counterexample, (GRAPH,), [("graph", WRONG_GRAPHS)])


class IsCounterexampleTest(Case):
    def refuses(self, graph, value):
        told = repr(value)
        self.assertIs(False, is_counterexample(graph, value), (graph, value))
        self.assertEqual(told, repr(value))

    def test_example(self):
        self.assertIs(True, self.assert_leaves_arguments(is_counterexample, RING, (ZEROS, EMPTY)))
        self.refuses(RING, (ZEROS, (ZERO_MESSAGE,) * 6))

    def test_bounds_of_counts_and_costs(self):
        for count, least in ((1, 1), (2, 0), (1000000, 0), (1, 10000), (1000000, 10000)):
            value = (ZEROS, ((((0,), count, least),),) * 6)
            self.assertIs(True, is_counterexample(RING, value), value)
        for count, least in ((1, 0), (1000001, 0), (1, 10001), (0, 1), (1, -1), (2, True), (True, 1), (2.0, 0)):
            self.refuses(RING, (ZEROS, ((((0,), count, least),),) * 6))

    def test_all_nodes_must_be_consistent(self):
        for graph in (RING, SPLIT, APART):
            tables, messages = told_counterexample(graph)
            for at, message in enumerate(messages):
                for other in ((), (((), 1, 0),), (((), 2, 0),), (((), 1, 1),), ZERO_MESSAGE):
                    if other != message:
                        self.refuses(graph, (tables, messages[:at] + (other,) + messages[at + 1:]))
        # What the node 0 says is wrong, and nobody is deceived who is consistent.
        self.refuses(GRAPH, (TABLES, LESS))
        self.refuses(GRAPH, (TABLES, NONE))

    def test_some_node_must_be_deceived(self):
        self.refuses(RING, (((),) * 3, EMPTY))
        self.refuses(SPLIT, ((ZERO, (((), 0),), ZERO), ((((), 1, 0),),) * 4))
        self.refuses(APART, (((), (), ()), ((), ())))
        self.refuses(APART, ((ZERO, (((1,), 0),), (((), 0),)), ((((), 1, 0),), (((), 1, 0),))))
        # One deceived node is enough: the node 1 here, as the solution costs more than it knows of.
        pair = (2, ((), ()), ())
        self.assertIs(True, is_counterexample(pair, (((((), 1),), (((), 0),)), ())))
        self.refuses(pair, (((((), 0),), (((), 0),)), ()))

    def test_never_for_a_junction_tree(self):
        numbers = Numbers(54)
        for _ in range(60):
            graph = sample_tree(numbers)
            tables = sample_tables(numbers, graph)
            self.refuses(graph, (tables, computed_messages(graph, tables)))
            self.refuses(graph, (tables, ((),) * len(directions(graph))))

    def test_by_the_words_of_the_document(self):
        found = [0, 0]
        for graph, tables, messages in all_samples(60):
            right = not inconsistent(graph, tables, messages) and any(
                plain_misjudged(graph, tables, messages, node) for node in range(len(graph[1])))
            self.assertIs(right, is_counterexample(graph, (tables, messages)))
            found[right] += 1
        self.assertLess(20, min(found))

    def test_all_tables_and_messages_of_a_small_ring(self):
        """All rows are at 0 and counted once: what is told is found among all messages of the ring."""
        subsets = [(), ((0,),), ((1,),), ((0,), (1,))]
        tables = ((((0,), 0),), (((0,), 0), ((1,), 0)), (((0,), 0), ((1,), 0)))
        found = []
        for rows in itertools.product(subsets, repeat=6):
            messages = tuple(tuple((row, 1, 0) for row in some) for some in rows)
            if is_counterexample(RING, (tables, messages)):
                found.append(messages)
            elif not inconsistent(RING, tables, messages):
                self.assert_same((), deceived(RING, tables, messages))
        self.assertIn(EMPTY, found)
        for messages in found:
            self.assert_same((), inconsistent(RING, tables, messages))

    def test_any_value_at_all(self):
        values = STRANGE + [
            0, 1, (), ((),), ((), ()), ((), (), ()), [ZEROS, EMPTY], (ZEROS,), (ZEROS, EMPTY, ()), (EMPTY, ZEROS),
            (list(ZEROS), EMPTY), (ZEROS, list(EMPTY)), (ZEROS, None), (None, EMPTY), (ZEROS[:2], EMPTY),
            (ZEROS, EMPTY[:5]), (ZEROS, EMPTY + ((),)), (ZEROS + (ZERO,), EMPTY), "ab", {0: 1, 1: 2}, {"a", "b"},
            (ZEROS, ([],) * 6), (([],) * 3, EMPTY), (ZEROS, 0), (0, EMPTY), (0, 0), (ZEROS, {}), ({}, EMPTY),
            ((((0,), False),) * 3, EMPTY), (((((False,), 0),),) * 3, EMPTY), (((((0,), 0.0),),) * 3, EMPTY)]
        for graph in (RING, GRAPH, SPLIT, (2, ((),), ())):
            for value in values:
                self.refuses(graph, value)
        for tables in WRONG_TABLES:
            self.refuses(GRAPH, (tables, TOLD))
            self.refuses(RING, (tables, EMPTY))
        for messages in WRONG_MESSAGES:
            self.refuses(GRAPH, (TABLES, messages))

    def test_wrong_arguments(self):
        for value in ((ZEROS, EMPTY), None, 0):
            self.assert_refuses(lambda graph: is_counterexample(graph, value), (GRAPH,), [("graph", WRONG_GRAPHS)])


class ExampleTest(Case):
    def test_point_62(self):
        self.assert_same((), inconsistent(RING, ZEROS, EMPTY))
        self.assert_same([((0,), 0)], plain_solutions(RING, ZEROS))
        for node in range(3):
            self.assert_same((((0,), None, (1, 0)),), misjudged(RING, ZEROS, EMPTY, node))

    def test_interface(self):
        self.assert_same((((((0,), 0),), (((), 0),), (((1,), 0),)), (0, 1, 2)), (
            told_counterexample(SPLIT)[0], deceived(SPLIT, *told_counterexample(SPLIT))))
        self.assert_same((True, True), (is_trusted(GRAPH), told_counterexample((2, ((),), ())) is None))
