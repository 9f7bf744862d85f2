"""Points 1 to 8, 44, 45, 47 and 49 to 51: rounds, the computed messages, and what these are in a junction tree."""

from tabletalk.messages import are_messages, belief, inconsistent, total
from tabletalk.projections import part_projection
from tabletalk.rounds import computed_messages, count_rounds
from tests.support import (BARE, GRAPH, LARGE, TABLES, TOLD, WRONG_GRAPHS, WRONG_TABLES, Case, Numbers, directions,
                           full_tables, plain_computed, plain_reached, plain_round, plain_shared, plain_solutions,
                           sample_graph, sample_tables, sample_tree)

RING = (2, ((0,), (0,), (0,)), ((0, 1), (0, 2), (1, 2)))
LINE = ((0, 1), (1, 2), (2, 3), (3, 4))


def all_samples(many):
    """Graphs of any kind, and as many junction trees, with tables."""
    numbers = Numbers(44)
    for _ in range(many):
        for graph in (sample_graph(numbers), sample_tree(numbers)):
            yield graph, sample_tables(numbers, graph)


def trees(many):
    numbers = Numbers(47)
    for _ in range(many):
        graph = sample_tree(numbers)
        yield graph, sample_tables(numbers, graph)
        yield graph, full_tables(graph, numbers.below(101))


class ComputedMessagesTest(Case):
    def test_example(self):
        self.assert_same(TOLD, self.assert_leaves_arguments(computed_messages, GRAPH, TABLES))

    def test_by_the_words_of_the_document(self):
        rows = 0
        for graph, tables in all_samples(100):
            told = computed_messages(graph, tables)
            self.assert_same(plain_computed(graph, tables), told)
            rows += sum(len(message) for message in told)
        self.assertLess(1000, rows)

    def test_no_edges(self):
        for graph in ((2, ((),), ()), (3, ((0, 1, 2),), ()), (2, ((0,),) * 5, ())):
            for tables in (full_tables(graph, 1), ((),) * len(graph[1])):
                self.assert_same((), computed_messages(graph, tables))

    def test_no_row_in_a_table(self):
        self.assert_same(((), (), (), TOLD[3]), computed_messages(GRAPH, ((), (), TABLES[2])))
        self.assert_same(((), (((1,), 1, 2),), (), (((1,), 1, 0),)), computed_messages(GRAPH, (
            (), (((1, 1), 2),), TABLES[2])))
        self.assert_same(((), (((), 1, 100),)), computed_messages(BARE, ((), (((), 100),))))
        self.assert_same(((),) * 4, computed_messages(GRAPH, ((),) * 3))

    def test_neighbours_without_a_shared_variable(self):
        line = (3, ((0, 1, 2), (3, 4, 5), (0, 1, 2), (3, 4, 5), (0, 1, 2)), LINE)
        told = computed_messages(line, full_tables(line, 100))
        counts = [27 ** many for edge in range(4) for many in (edge + 1, 4 - edge)]
        leasts = [100 * many for edge in range(4) for many in (edge + 1, 4 - edge)]
        self.assert_same(tuple((((), *pair),) for pair in zip(counts, leasts)), told)
        self.assertTrue(are_messages(line, told))

    def test_on_cycles(self):
        self.assert_same(((),) * 6, computed_messages(RING, full_tables(RING, 1)))
        self.assert_same(((),) * 20, computed_messages(LARGE, full_tables(LARGE, 1)))
        square = (2, ((), (), (), (), (0,)), ((0, 1), (0, 3), (1, 2), (2, 3), (3, 4)))
        told = dict(zip(directions(square), computed_messages(square, full_tables(square, 1))))
        # What the node at the end says is heard, but nobody on the cycle, or behind it, goes on with it.
        self.assert_same([((4, 3), (((), 2, 1),))], [item for item in told.items() if item[1]])

    def test_consistent_whatever_the_graph(self):
        """Point 45."""
        for graph, tables in all_samples(150):
            told = computed_messages(graph, tables)
            self.assertTrue(are_messages(graph, told))
            self.assertEqual((), inconsistent(graph, tables, told), (graph, tables))

    def test_greater_costs_in_one_table(self):
        """Point 49."""
        found = 0
        for graph, tables in all_samples(80):
            told = computed_messages(graph, tables)
            for node, table in enumerate(tables):
                most = 100 - max((cost for _, cost in table), default=0)
                for more in (min(1, most), most):
                    dear = tuple((row, cost + more) for row, cost in table)
                    other = computed_messages(graph, tables[:node] + (dear,) + tables[node + 1:])
                    self.assert_same([[item[:2] for item in message] for message in told],
                                     [[item[:2] for item in message] for message in other])
                    found += told != other
        self.assertLess(200, found)

    def test_wrong_arguments(self):
        wrong = [("graph", WRONG_GRAPHS), ("tables", WRONG_TABLES)]
        self.assert_refuses(computed_messages, (GRAPH, TABLES), wrong)
        self.assert_refuses(computed_messages, (BARE, ((), ())), [
            ("graph", [None]), ("tables", [TABLES, (), ((),), [(), ()], (((0,), 1), ())])])


class JunctionTreeTest(Case):
    """Point 47."""

    def test_messages_are_projections_of_what_is_behind(self):
        rows = 0
        for graph, tables in trees(60):
            for (one, other), message in zip(directions(graph), computed_messages(graph, tables)):
                others = [node for node in range(len(graph[1])) if node != other]
                behind = plain_reached(graph, others, one)
                some = plain_shared(graph, one, other)
                self.assert_same(part_projection(graph, tables, behind, some), message)
                rows += len(message)
        self.assertLess(500, rows)

    def test_totals(self):
        found = set()
        for graph, tables in trees(60):
            told = computed_messages(graph, tables)
            costs = [cost for _, cost in plain_solutions(graph, tables)]
            right = (len(costs), min(costs)) if costs else None
            for edge in range(len(graph[2])):
                self.assert_same(right, total(graph, told, edge))
                found.add(right)
        self.assertIn(None, found)
        self.assertLess(30, len(found))


class CountRoundsTest(Case):
    def test_example(self):
        self.assert_same(2, self.assert_leaves_arguments(count_rounds, GRAPH, TABLES))

    def test_at_most_one_less_than_the_nodes(self):
        """Point 45."""
        found = set()
        for graph, tables in all_samples(150):
            told = count_rounds(graph, tables)
            self.assertLess(told, len(graph[1]), (graph, tables))
            found.add((len(graph[1]), told))
        self.assertLess(9, len(found))

    def test_by_the_words_of_the_document(self):
        for graph, tables in all_samples(80):
            messages = ((),) * len(directions(graph))
            many = 0
            while plain_round(graph, tables, messages) != messages:
                messages = plain_round(graph, tables, messages)
                many += 1
            self.assert_same(many, count_rounds(graph, tables))

    def test_lines_and_stars(self):
        for many in range(1, 6):
            line = (2, ((0,),) * many, LINE[:many - 1])
            self.assert_same(many - 1, count_rounds(line, full_tables(line, 3)))
            self.assert_same(0, count_rounds(line, ((),) * many))
            self.assert_same(min(many - 1, 1), count_rounds(line, full_tables(line, 3)[:1] + ((),) * (many - 1)))
            star = (2, ((),) * many, tuple((0, node) for node in range(1, many)))
            self.assert_same(min(many - 1, 2), count_rounds(star, full_tables(star, 0)))

    def test_no_edges_and_cycles(self):
        for graph in ((2, ((0,),) * 5, ()), RING, LARGE, (2, ((),), ())):
            self.assert_same(0, count_rounds(graph, full_tables(graph, 1)))
        square = (2, ((), (), (), (), (0,)), ((0, 1), (0, 3), (1, 2), (2, 3), (3, 4)))
        self.assert_same(1, count_rounds(square, full_tables(square, 1)))

    def test_wrong_arguments(self):
        self.assert_refuses(count_rounds, (GRAPH, TABLES), [("graph", WRONG_GRAPHS), ("tables", WRONG_TABLES)])


class ExampleTest(Case):
    def test_point_51(self):
        self.assert_same([((0, 1), 3), ((1, 1), 5)], plain_solutions(GRAPH, TABLES))
        self.assert_same((((1,), 2, 3),), belief(GRAPH, TABLES, computed_messages(GRAPH, TABLES), 2))
