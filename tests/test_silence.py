"""Points 1 to 8, 56, 57, 61 and 62 as far as tabletalk.silence tells them: silent directions, other messages."""

from tabletalk.messages import inconsistent
from tabletalk.rounds import computed_messages
from tabletalk.silence import other_messages, silent
from tabletalk.trust import told_counterexample
from tests.support import (BARE, GRAPH, LARGE, WRONG_GRAPHS, Case, Numbers, directions, full_tables, is_edge_of,
                           many_graphs, message_samples, plain_cycles, plain_round, plain_shared, sample_messages,
                           sample_tables)

RING = (2, ((0,), (0,), (0,)), ((0, 1), (0, 2), (1, 2)))
# A square with a node at the end, and two triangles that a node stands between.
SQUARE = (2, ((), (), (), (), (0,)), ((0, 1), (0, 3), (1, 2), (2, 3), (3, 4)))
BOW = (2, ((),) * 5, ((0, 1), (0, 2), (1, 2), (2, 3), (2, 4), (3, 4)))


def plain_silent(graph):
    """Point 56, word by word: with many more directions in a sequence than there are, one of them comes again."""
    ends = set(directions(graph))
    for _ in range(2 * len(graph[2]) + 2):
        ends = {(there, node) for _, there in ends for node in range(len(graph[1])) if is_edge_of(graph, there, node)
                and any(before == there and first != node for first, before in ends)}
    return tuple(sorted(ends))


def acyclic(graphs):
    return [graph for graph in graphs if not plain_cycles(graph)]


class SilentTest(Case):
    def test_example(self):
        right = ((0, 1), (0, 2), (1, 0), (1, 2), (2, 0), (2, 1))
        self.assert_same(right, self.assert_leaves_arguments(silent, RING))
        self.assert_same((), silent((2, ((0,), (), (0,)), ((0, 1), (1, 2)))))

    def test_behind_a_cycle(self):
        cycle = ((0, 1), (0, 3), (1, 0), (1, 2), (2, 1), (2, 3), (3, 0), (3, 2))
        self.assert_same(tuple(sorted(cycle + ((3, 4),))), silent(SQUARE))
        self.assert_same(tuple(sorted(directions(BOW))), silent(BOW))
        # A row that leads away from a triangle is silent in this direction alone.
        row = (2, ((),) * 5, ((0, 1), (0, 2), (1, 2), (2, 3), (3, 4)))
        self.assert_same(tuple(sorted(directions(RING) + [(2, 3), (3, 4)])), silent(row))
        apart = (2, ((),) * 5, ((0, 1), (0, 2), (1, 2), (3, 4)))
        self.assert_same(tuple(sorted(directions(RING))), silent(apart))

    def test_edges(self):
        for graph in (GRAPH, BARE, (2, ((),), ()), (2, ((0,),) * 5, ()), (2, ((),) * 5, SQUARE[2][2:])):
            self.assert_same((), silent(graph))
        self.assert_same(tuple(sorted(directions(LARGE))), silent(LARGE))

    def test_by_the_words_of_the_document(self):
        found = set()
        for graph in many_graphs():
            told = silent(graph)
            self.assert_same(plain_silent(graph), told)
            self.assertIs(bool(plain_cycles(graph)), told != (), graph)
            found.add(len(told))
        self.assertLess(10, len(found))

    def test_computed_messages(self):
        """Point 56: empty along silent directions, and along no other one if each table has all rows."""
        numbers = Numbers(56)
        for graph in list(many_graphs())[::2]:
            quiet = silent(graph)
            for tables in (full_tables(graph, 5), sample_tables(numbers, graph)):
                for pair, message in zip(directions(graph), computed_messages(graph, tables)):
                    if pair in quiet:
                        self.assert_same((), message)
                    elif tables == full_tables(graph, 5):
                        self.assertNotEqual((), message)

    def test_wrong_arguments(self):
        self.assert_refuses(silent, (GRAPH,), [("graph", WRONG_GRAPHS)])


class OtherMessagesTest(Case):
    def test_example(self):
        self.assert_same(((((0,), 1, 0),),) * 6, self.assert_leaves_arguments(other_messages, RING))
        self.assert_same(None, other_messages((2, ((0,), (), (0,)), ((0, 1), (1, 2)))))

    def test_none_without_a_cycle(self):
        for graph in (GRAPH, BARE, (2, ((),), ()), (2, ((0,),) * 5, ())):
            self.assert_same(None, other_messages(graph))

    def test_over_the_shared_variables(self):
        one, two, bare = [(((0,) * many, 1, 0),) for many in (1, 2, 0)]
        # In the order of the edges: (0, 1), (0, 2), (0, 3) and so on, to (3, 4).
        edges = (two, one, bare, one, two, one, bare, two, bare, one)
        self.assert_same(tuple(message for message in edges for _ in range(2)), other_messages(LARGE))
        self.assert_same((bare,) * 10, other_messages(SQUARE))

    def test_by_the_words_of_the_document(self):
        """Point 57: with the tables of the told counterexample they make all nodes consistent, too."""
        found = 0
        for graph in many_graphs():
            told = other_messages(graph)
            self.assertIs(bool(plain_cycles(graph)), told is not None, graph)
            if told is not None:
                right = tuple((((0,) * len(plain_shared(graph, *pair)), 1, 0),) for pair in directions(graph))
                self.assert_same(right, told)
                tables, messages = told_counterexample(graph)
                self.assert_same((), inconsistent(graph, tables, told))
                self.assertNotEqual(messages, told)
                found += 1
        self.assertLess(100, found)

    def test_no_other_messages_without_a_cycle(self):
        """Point 57: whatever the messages are at first, rounds lead to the computed ones, which are the only ones."""
        numbers = Numbers(57)
        for graph in acyclic(many_graphs())[::3]:
            tables = sample_tables(numbers, graph)
            right = computed_messages(graph, tables)
            messages = sample_messages(numbers, graph)
            self.assertIs(messages == right, not inconsistent(graph, tables, messages))
            for _ in graph[1]:
                messages = plain_round(graph, tables, messages)
            self.assert_same(right, messages)
        for graph, tables, messages in message_samples(60):
            if not plain_cycles(graph):
                self.assertIs(messages == computed_messages(graph, tables), not inconsistent(graph, tables, messages))

    def test_wrong_arguments(self):
        self.assert_refuses(other_messages, (GRAPH,), [("graph", WRONG_GRAPHS)])
