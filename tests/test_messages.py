"""Points 1 to 8, 40 to 43, 46, 48 and 50: messages of a graph, consistent nodes, beliefs and totals of edges."""

import itertools

from tabletalk.joins import project
from tabletalk.messages import are_messages, belief, inconsistent, required_message, total
from tests.support import (BARE, GRAPH, LARGE, LESS, NONE, STRANGE, TABLES, TOLD, WRONG_GRAPHS, WRONG_MESSAGES,
                           WRONG_NODES, WRONG_TABLES, Case, directions, full_tables, message_samples, plain_left,
                           plain_neighbours, plain_required, plain_shared)

RING = (2, ((0,), (0,), (0,)), ((0, 1), (0, 2), (1, 2)))
FULL = (3, ((0, 1, 2),) * 5, tuple(itertools.combinations(range(5), 2)))


def plain_total(message, other):
    here, there = [{row: (count, least) for row, count, least in rows} for rows in (message, other)]
    both = [row for row in here if row in there]
    if not both:
        return None
    return sum(here[row][0] * there[row][0] for row in both), min(here[row][1] + there[row][1] for row in both)


def settled(graph, tables, messages):
    """The messages when all have been replaced by the required ones as many times as there are nodes."""
    for _ in graph[1]:
        messages = tuple(required_message(graph, tables, messages, *pair) for pair in directions(graph))
    return messages


class AreMessagesTest(Case):
    def test_ordinary_messages(self):
        for messages in (TOLD, LESS, NONE, TOLD[1:2] + TOLD[:1] + TOLD[2:]):
            self.assertIs(True, self.assert_leaves_arguments(are_messages, GRAPH, messages))
        self.assertIs(True, are_messages((2, ((), (0,)), ()), ()))
        self.assertIs(True, are_messages((2, ((0, 1),), ()), ()))
        self.assertIs(True, are_messages(BARE, ((((), 5, 0),), ())))
        self.assertIs(True, are_messages((3, ((0, 1), (1, 2)), ((0, 1),)), ((((2,), 1, 1),), (((0,), 4, 4),))))

    def test_samples(self):
        for graph, _, messages in message_samples(60):
            self.assertIs(True, are_messages(graph, messages))
            self.assertIs(True, are_messages(graph, ((),) * len(messages)))
            self.assertIs(False, are_messages(graph, messages + ((),)))
            self.assertIs(False, are_messages(graph, list(messages)))
            if messages:
                self.assertIs(False, are_messages(graph, messages[1:]))

    def test_counts_and_costs(self):
        for count in (-1, 0, 1, 2, 999999, 1000000, 1000001):
            messages = TOLD[:3] + ((((1,), count, 0),),)
            self.assertIs(1 <= count <= 1000000, are_messages(GRAPH, messages), count)
        for least in (-1, 0, 1, 100, 9999, 10000, 10001):
            messages = ((((0,), 1, 7), ((1,), 1, least)),) + TOLD[1:]
            self.assertIs(0 <= least <= 10000, are_messages(GRAPH, messages), least)

    def test_over_the_shared_variables(self):
        graph = (2, ((0, 1), (1, 2), (0, 2)), ((0, 1), (1, 2)))
        one, both, bare = (((0,), 1, 1),), (((0, 0), 1, 1),), (((), 1, 1),)
        self.assertIs(True, are_messages(graph, (one,) * 4))
        for at, wrong in itertools.product(range(4), (both, bare)):
            self.assertIs(False, are_messages(graph, (one,) * at + (wrong,) + (one,) * (3 - at)))
        # The second message of the first edge is over one variable, and those of the second edge over two.
        graph = (2, ((0,), (0, 1, 2), (1, 2)), ((0, 1), (1, 2)))
        self.assertIs(True, are_messages(graph, (one, one, both, both)))
        self.assertIs(False, are_messages(graph, (one, both, one, both)))
        self.assertIs(False, are_messages(graph, (both, both, one, one)))

    def test_two_and_three_values(self):
        graph = ((0,), (0,)), ((0, 1),)
        messages = ((((2,), 1, 1),), ())
        self.assertIs(False, are_messages((2,) + graph, messages))
        self.assertIs(True, are_messages((3,) + graph, messages))
        self.assertIs(False, are_messages((3,) + graph, ((((3,), 1, 1),), ())))

    def test_every_value_is_valid(self):
        for value in WRONG_MESSAGES:
            told = repr(value)
            self.assertIs(False, are_messages(GRAPH, value), value)
            self.assertEqual(told, repr(value))
        for value in STRANGE + [0, ((),), [], {}]:
            self.assertIs(False, are_messages((2, ((0,),), ()), value), value)

    def test_wrong_arguments(self):
        for value in (TOLD, (), None, 0):
            self.assert_refuses(lambda graph: are_messages(graph, value), (GRAPH,), [("graph", WRONG_GRAPHS)])


class RequiredMessageTest(Case):
    def test_example(self):
        for pair, message in zip(directions(GRAPH), TOLD):
            told = self.assert_leaves_arguments(required_message, GRAPH, TABLES, TOLD, *pair)
            self.assert_same(message, told)
        self.assert_same((((0,), 1, 1), ((1,), 1, 3)), required_message(GRAPH, TABLES, LESS, 1, 2))

    def test_all_other_neighbours_are_asked(self):
        # Without another neighbour the messages do not matter; with one, a row that it does not have is not left.
        self.assert_same(TOLD[0], required_message(GRAPH, TABLES, NONE, 0, 1))
        self.assert_same((), required_message(GRAPH, TABLES, NONE, 1, 0))
        self.assert_same((), required_message(GRAPH, TABLES, NONE, 1, 2))
        self.assert_same(TOLD[3], required_message(GRAPH, TABLES, NONE, 2, 1))

    def test_rows_are_gathered(self):
        graph = (3, ((0, 1), (1,)), ((0, 1),))
        table = (((0, 0), 9), ((0, 2), 7), ((1, 0), 4), ((2, 0), 6), ((2, 2), 8))
        self.assert_same((((0,), 3, 4), ((2,), 2, 7)), required_message(graph, (table, ()), ((), ()), 0, 1))
        self.assert_same((), required_message(graph, (table, ()), ((), ()), 1, 0))

    def test_neighbours_without_a_shared_variable(self):
        star = (2, ((0,), (1,), (), (2,)), ((0, 1), (1, 2), (1, 3)))
        tables = ((((0,), 5), ((1,), 6)), (((0,), 1), ((1,), 2)), (((), 3),), (((0,), 9), ((1,), 4)))
        messages = ((((), 2, 5),), (), (), (((), 1, 3),), (), (((), 2, 4),))
        self.assert_same((((), 2, 5),), required_message(star, tables, messages, 0, 1))
        self.assert_same((((), 4, 8),), required_message(star, tables, messages, 1, 0))
        self.assert_same((((), 8, 10),), required_message(star, tables, messages, 1, 2))
        self.assert_same((((), 4, 9),), required_message(star, tables, messages, 1, 3))
        less = messages[:3] + ((),) + messages[4:]
        self.assert_same((), required_message(star, tables, less, 1, 0))
        self.assert_same((((), 8, 10),), required_message(star, tables, less, 1, 2))

    def test_by_the_words_of_the_document(self):
        rows = 0
        for graph, tables, messages in message_samples(150):
            for pair in directions(graph):
                told = required_message(graph, tables, messages, *pair)
                self.assert_same(plain_required(graph, tables, messages, *pair), told)
                rows += len(told)
        self.assertLess(1000, rows)

    def test_what_is_returned_has_no_bound(self):
        messages = tuple(tuple((row, 1000000, 10000) for row, _ in table) for table in full_tables(FULL, 0) * 4)
        told = required_message(FULL, full_tables(FULL, 100), messages, 4, 2)
        self.assert_same(tuple((row, 10 ** 18, 30100) for row, _ in full_tables(FULL, 0)[0]), told)
        bare = (2, ((0, 1, 2), (), (), (), ()), FULL[2][:4])
        messages = ((((), 1000000, 10000),),) * 8
        self.assert_same((((), 8 * 10 ** 18, 30000),), required_message(bare, full_tables(bare, 0), messages, 0, 3))

    def test_wrong_arguments(self):
        wrong = [("graph", WRONG_GRAPHS), ("tables", WRONG_TABLES), ("messages", WRONG_MESSAGES)]
        good = (GRAPH, TABLES, TOLD)
        ones, others = ("one", WRONG_NODES), ("other", WRONG_NODES + [0, 2])
        self.assert_refuses(required_message, good + (0, 1), wrong + [ones, others])
        self.assert_refuses(required_message, good + (2, 1), [
            ("graph", [None]), ("tables", [()]), ("messages", [()]), ones, others])
        self.assert_refuses(required_message, good + (1, 0), [
            ("graph", [None]), ("tables", [()]), ("messages", [()]), ones, ("other", [1, 3, -1, True, False, 0.0])])

    def test_no_edges(self):
        for graph in ((2, ((0,),), ()), (2, ((0,), (0,), (0,)), ())):
            tables = full_tables(graph, 1)
            for other in range(len(graph[1])):
                self.assert_refuses(lambda value: required_message(graph, tables, (), 0, value), (0,), [
                    ("other", [other, -1, 5, None])])


class InconsistentTest(Case):
    def test_example(self):
        self.assert_same((), self.assert_leaves_arguments(inconsistent, GRAPH, TABLES, TOLD))
        self.assert_same(((0, 1), (1, 2)), self.assert_leaves_arguments(inconsistent, GRAPH, TABLES, LESS))
        self.assert_same(((0, 1), (2, 1)), inconsistent(GRAPH, TABLES, NONE))

    def test_pairs_ascend(self):
        graph = (2, ((), (), ()), ((0, 2), (1, 2)))
        tables = full_tables(graph, 1)
        right = ((((), 1, 1),), (((), 1, 2),), (((), 1, 1),), (((), 1, 2),))
        self.assert_same((), inconsistent(graph, tables, right))
        wrong = ((((), 3, 0),),) * 4
        self.assert_same(((0, 2), (1, 2), (2, 0), (2, 1)), inconsistent(graph, tables, wrong))

    def test_counts_costs_and_rows(self):
        for message in ((((1,), 2, 0),), (((1,), 1, 1),), (((0,), 1, 0),), (((0,), 1, 0), ((1,), 1, 0)), ()):
            told = inconsistent(GRAPH, TABLES, TOLD[:3] + (message,))
            self.assertIn((2, 1), told)
            self.assertNotIn((0, 1), told)
            self.assertNotIn((1, 2), told)

    def test_no_edges(self):
        for graph in ((2, ((0,),), ()), (3, ((0,), (0,), ()), ())):
            self.assert_same((), inconsistent(graph, full_tables(graph, 1), ()))
            self.assert_same((), inconsistent(graph, ((),) * len(graph[1]), ()))

    def test_a_ring(self):
        """A message that nobody can see to be wrong: on a ring, empty ones are required by empty ones."""
        tables = ((((0,), 0),),) * 3
        for messages in (((),) * 6, ((((0,), 1, 0),),) * 6):
            self.assert_same((), inconsistent(RING, tables, messages))
        self.assert_same(directions(RING), sorted(inconsistent(RING, tables, ((((1,), 1, 0),),) * 6),
                                                  key=directions(RING).index))

    def test_by_the_words_of_the_document(self):
        found = 0
        for graph, tables, messages in message_samples(100):
            for told in (messages, settled(graph, tables, ((),) * len(messages))):
                wrong = sorted(pair for pair, message in zip(directions(graph), told)
                               if plain_required(graph, tables, told, *pair) != message)
                self.assert_same(tuple(wrong), inconsistent(graph, tables, told))
                found += not wrong
        self.assertLess(150, found)

    def test_a_required_message_beyond_what_can_be_given(self):
        star = (2, ((), (), ()), ((0, 1), (0, 2)))
        messages = ((((), 1000000, 10000),),) * 4
        tables = full_tables(star, 1)
        self.assert_same((((), 1000000, 10001),), required_message(star, tables, messages, 0, 1))
        self.assert_same(tuple(sorted(directions(star))), inconsistent(star, tables, messages))

    def test_wrong_arguments(self):
        wrong = [("graph", WRONG_GRAPHS), ("tables", WRONG_TABLES), ("messages", WRONG_MESSAGES)]
        self.assert_refuses(inconsistent, (GRAPH, TABLES, TOLD), wrong)


class BeliefTest(Case):
    def test_example(self):
        self.assert_same((((1,), 2, 3),), self.assert_leaves_arguments(belief, GRAPH, TABLES, TOLD, 2))
        self.assert_same((((0,), 1, 3), ((1,), 1, 5)), belief(GRAPH, TABLES, TOLD, 0))
        self.assert_same((((0, 1), 1, 3), ((1, 1), 1, 5)), belief(GRAPH, TABLES, TOLD, 1))
        for node in range(3):
            self.assert_same((), belief(GRAPH, TABLES, NONE, node))

    def test_no_neighbours(self):
        graph = (2, ((0, 1), (), (3,)), ())
        tables = (TABLES[1], (((), 100),), ())
        self.assert_same((((0, 0), 1, 0), ((0, 1), 1, 2), ((1, 1), 1, 5)), belief(graph, tables, (), 0))
        self.assert_same((((), 1, 100),), belief(graph, tables, (), 1))
        self.assert_same((), belief(graph, tables, (), 2))

    def test_no_row_in_the_table(self):
        for node in range(3):
            self.assert_same((), belief(GRAPH, ((), (), ()), TOLD, node))

    def test_by_the_words_of_the_document(self):
        rows = 0
        for graph, tables, messages in message_samples(150):
            for node in range(len(graph[1])):
                told = belief(graph, tables, messages, node)
                self.assert_same(plain_left(graph, tables, messages, node, plain_neighbours(graph, node)), told)
                rows += len(told)
        self.assertLess(500, rows)

    def test_what_is_returned_has_no_bound(self):
        messages = tuple(tuple((row, 1000000, 10000) for row, _ in table) for table in full_tables(FULL, 0) * 4)
        told = belief(FULL, full_tables(FULL, 100), messages, 1)
        self.assert_same(tuple((row, 10 ** 24, 40100) for row, _ in full_tables(FULL, 0)[0]), told)

    def test_wrong_arguments(self):
        wrong = [("graph", WRONG_GRAPHS), ("tables", WRONG_TABLES), ("messages", WRONG_MESSAGES),
                 ("node", WRONG_NODES)]
        self.assert_refuses(belief, (GRAPH, TABLES, TOLD, 0), wrong)
        self.assert_refuses(belief, ((2, ((),), ()), ((),), (), 0), [
            ("graph", [None]), ("tables", [()]), ("messages", [((),), []]), ("node", [1, -1, False])])


class NeighboursTest(Case):
    """Point 48."""

    def assert_agree(self, graph, tables, messages, one, other):
        some = plain_shared(graph, one, other)
        told = [project(graph[0], graph[1][node], belief(graph, tables, messages, node), some) for node in (one, other)]
        self.assert_same(told[0], told[1])
        return len(told[0])

    def test_all_nodes_consistent(self):
        rows = 0
        for graph, tables, messages in message_samples(100):
            told = settled(graph, tables, ((),) * len(messages))
            self.assertEqual((), inconsistent(graph, tables, told))
            for edge in graph[2]:
                rows += self.assert_agree(graph, tables, told, *edge)
        self.assertLess(100, rows)

    def test_these_two_consistent(self):
        rows = 0
        for graph, tables, messages in message_samples(100):
            for edge in graph[2]:
                sent = dict(zip(directions(graph), messages))
                # First the two tell each other what the others tell them, and then the others what they were told.
                for pairs in ((edge, edge[::-1]), [pair for pair in sent if pair[0] in edge]):
                    for pair in pairs:
                        sent[pair] = required_message(graph, tables, tuple(sent.values()), *pair)
                    if not are_messages(graph, tuple(sent.values())):
                        break
                else:
                    told = tuple(sent.values())
                    wrong = inconsistent(graph, tables, told)
                    self.assertFalse([pair for pair in wrong if pair[0] in edge], graph)
                    rows += self.assert_agree(graph, tables, told, *edge)
        self.assertLess(100, rows)


class TotalTest(Case):
    def test_example(self):
        self.assert_same((2, 3), self.assert_leaves_arguments(total, GRAPH, TOLD, 0))
        self.assert_same((2, 3), total(GRAPH, TOLD, 1))
        self.assert_same((1, 3), total(GRAPH, LESS, 0))

    def test_none(self):
        self.assert_same(None, self.assert_leaves_arguments(total, GRAPH, NONE, 0))
        self.assert_same(None, total(GRAPH, TOLD[:3] + ((),), 1))
        self.assert_same(None, total(GRAPH, ((((0,), 1, 1),), (((1,), 1, 1),), (), ()), 0))
        self.assert_same(None, total(BARE, ((((), 1, 1),), ()), 0))

    def test_products_and_sums(self):
        messages = ((((0,), 2, 9), ((1,), 3, 4)), (((0,), 5, 1), ((1,), 7, 7)), (((0,), 2, 2),), (((0,), 3, 0),))
        self.assert_same((31, 10), total(GRAPH, messages, 0))
        self.assert_same((6, 2), total(GRAPH, messages, 1))
        self.assert_same((12, 7), total(BARE, ((((), 3, 5),), (((), 4, 2),)), 0))

    def test_what_is_returned_has_no_bound(self):
        large = (((0,), 1000000, 10000), ((1,), 1000000, 10000))
        self.assert_same((2 * 10 ** 12, 20000), total(GRAPH, (large,) * 4, 1))
        self.assert_same((1, 0), total(BARE, ((((), 1, 0),),) * 2, 0))

    def test_by_the_words_of_the_document(self):
        found = set()
        for graph, _, messages in message_samples(150):
            for edge in range(len(graph[2])):
                told = plain_total(messages[2 * edge], messages[2 * edge + 1])
                self.assert_same(told, total(graph, messages, edge))
                found.add(told)
        self.assertIn(None, found)
        self.assertLess(50, len(found))

    def test_wrong_arguments(self):
        wrong = [("graph", WRONG_GRAPHS), ("messages", WRONG_MESSAGES), ("edge", WRONG_NODES + [2, (0, 1)])]
        self.assert_refuses(total, (GRAPH, TOLD, 0), wrong)
        empty = ((),) * 20
        self.assert_refuses(total, (LARGE, empty, 9), [
            ("graph", [None]), ("messages", [()]), ("edge", [10, -1, True, False])])
        for edge in (0, -1, 1, False):
            self.assert_refuses(lambda value: total((2, ((0,), (0,)), ()), (), value), (0,), [("edge", [edge])])


class ExampleTest(Case):
    def test_interface(self):
        told = (inconsistent(GRAPH, TABLES, TOLD), belief(GRAPH, TABLES, TOLD, 2), total(GRAPH, TOLD, 0),
                total(GRAPH, TOLD, 1))
        self.assert_same(((), (((1,), 2, 3),), (2, 3), (2, 3)), told)
        told = (are_messages(GRAPH, LESS), inconsistent(GRAPH, TABLES, LESS),
                required_message(GRAPH, TABLES, LESS, 1, 2), total(GRAPH, LESS, 0))
        self.assert_same((True, ((0, 1), (1, 2)), (((0,), 1, 1), ((1,), 1, 3)), (1, 3)), told)
