"""Points 1 to 8 and 66 to 73 as far as they speak of tabletalk.bounds: evidence of totals, potentials and bounds."""

import itertools

from tabletalk.bounds import accepts_bound, accepts_cheapest, accepts_totals, told_potentials, totals_evidence
from tabletalk.costs import cheapest
from tabletalk.messages import belief, inconsistent
from tabletalk.rounds import computed_messages
from tests.support import (BARE, GRAPH, LARGE, STRANGE, TABLES, TOLD, WRONG_GRAPHS, WRONG_MESSAGES, WRONG_TABLES, Case,
                           Numbers, all_rows, full_tables, many_graphs, plain_is_junction_tree, plain_shared,
                           plain_solutions, restricted, sample_tables, sample_tree, samples)

PAIR = (2, ((0, 1), (0, 2)), ((0, 1),))
PRICES = ((((0, 0), 3), ((0, 1), 1), ((1, 0), 0)), (((0, 1), 2), ((1, 0), 5), ((1, 1), 4)))
POTENTIALS = ((((0,), 2), ((1,), 4)),)
RING = (2, ((0,), (0,), (0,)), ((0, 1), (0, 2), (1, 2)))
NOTHING = ((), (), ())
STAR = (2, ((0,), (1,), (), (0, 1, 2), (2, 3)), ((0, 3), (1, 3), (2, 3), (3, 4)))
MOST = 1000000
GOOD = [("graph", [None]), ("tables", [()])]
WRONG_NUMBERS = STRANGE[1:] + [-1, MOST + 1, (1,), [1], 1.0, "1"]
NOT_TREES = [RING, LARGE, (2, ((0,), (0,)), ()), (2, ((0,), (), (0,)), ((0, 1), (1, 2)))]
# Anything at all that is neither messages nor potentials of any graph with edges.
WRONG_VALUES = STRANGE + [
    0, 1, -1, "ab", (0,), (None,), [()], [[]], {0: 1}, (((),),), (((), ()),), ({},), ([],), (((0,), 0),),
    (((((0,), 0),),),), ((),) * 9, ((0, 0),), ("",), ((((0,), 1, 0),),) * 9]


def plain_floors(graph, tables, potentials):
    """Points 67 and 68, word by word: each edge in turn changes the costs of both of its nodes."""
    costs = [dict(table) for table in tables]
    for (one, other), pairs in zip(graph[2], potentials):
        some = plain_shared(graph, one, other)
        for part, amount in pairs:
            for node, change in ((one, amount), (other, -amount)):
                for row in costs[node]:
                    if restricted(graph[1][node], row, some) == part:
                        costs[node][row] += change
    return [min(each.values()) for each in costs]


def sample_potentials(numbers, graph):
    found = []
    for one, other in graph[2]:
        rows = [row for row in all_rows(graph[0], plain_shared(graph, one, other)) if numbers.below(3)]
        found.append(tuple((row, numbers.below(101) - 50) for row in rows))
    return tuple(found)


def trees(many):
    numbers = Numbers(66)
    for _ in range(many):
        graph = sample_tree(numbers)
        yield graph, sample_tables(numbers, graph)
        # Few rows, so that there often is no solution, although each node has a row.
        yield graph, tuple(((numbers.among(all_rows(graph[0], scope)), numbers.below(101)),) for scope in graph[1])


def right_totals(graph, tables):
    costs = [cost for _, cost in plain_solutions(graph, tables)]
    return len(costs), min(costs, default=None)


class TotalsEvidenceTest(Case):
    def test_example(self):
        self.assert_same(TOLD, self.assert_leaves_arguments(totals_evidence, GRAPH, TABLES))
        told = totals_evidence(PAIR, PRICES)
        self.assert_same((True, False), tuple(accepts_totals(PAIR, PRICES, 4, least, told) for least in (3, 2)))

    def test_computed_messages(self):
        for graph, tables in trees(40):
            self.assert_same(computed_messages(graph, tables), totals_evidence(graph, tables))
        self.assert_same((), totals_evidence((2, ((),), ()), ((),)))

    def test_no_junction_tree(self):
        for graph in NOT_TREES:
            self.assert_not_possible("tree", totals_evidence, graph, full_tables(graph, 1))
            self.assert_refuses(lambda tables: totals_evidence(graph, tables), ((),), [("tables", [(), None])])

    def test_wrong_arguments(self):
        self.assert_refuses(totals_evidence, (GRAPH, TABLES), [("graph", WRONG_GRAPHS), ("tables", WRONG_TABLES)])


class AcceptsTotalsTest(Case):
    def test_example(self):
        told = totals_evidence(PAIR, PRICES)
        self.assertIs(True, self.assert_leaves_arguments(accepts_totals, PAIR, PRICES, 4, 3, told))
        self.assertIs(False, self.assert_leaves_arguments(accepts_totals, PAIR, PRICES, 4, 2, told))

    def test_counts_and_leasts(self):
        told = totals_evidence(PAIR, PRICES)
        for count in (0, 1, 3, 4, 5, MOST):
            for least in (None, 0, 2, 3, 4, MOST):
                self.assertIs((count, least) == (4, 3), accepts_totals(PAIR, PRICES, count, least, told))

    def test_no_solution(self):
        tables = TABLES[:2] + ((),)
        told = totals_evidence(GRAPH, tables)
        self.assertIs(True, accepts_totals(GRAPH, tables, 0, None, told))
        for count, least in ((0, 0), (0, 3), (1, None), (1, 0), (2, 3)):
            self.assertIs(False, accepts_totals(GRAPH, tables, count, least, told))

    def test_one_node(self):
        for graph, tables, right in (((2, ((),), ()), ((((), 9),),), (1, 9)), ((2, ((),), ()), ((),), (0, None)),
                                     ((3, ((1, 2, 4),), ()), full_tables((3, ((1, 2, 4),), ()), 100), (27, 100))):
            self.assertIs(True, accepts_totals(graph, tables, *right, ()))
            for count, least in ((1, 8), (2, 9), (0, 0), (1, None), (27, 99)):
                self.assertIs(False, accepts_totals(graph, tables, count, least, ()))

    def test_all_nodes_must_be_consistent(self):
        right = right_totals(GRAPH, TABLES)
        for at, other in itertools.product(range(4), ((), (((1,), 1, 0),), (((0,), 1, 1),), (((1,), 2, 3),))):
            value = TOLD[:at] + (other,) + TOLD[at + 1:]
            self.assertIs(value == TOLD, accepts_totals(GRAPH, TABLES, *right, value))
        # By these messages the first node tells what is so, but not all nodes are consistent.
        value = TOLD[:2] + ((((0,), 1, 1), ((1,), 1, 3)),) + TOLD[3:]
        self.assertEqual(((1, 2),), inconsistent(GRAPH, TABLES, value))
        self.assertEqual((((0,), 1, 3), ((1,), 1, 5)), belief(GRAPH, TABLES, value, 0))
        self.assertIs(False, accepts_totals(GRAPH, TABLES, *right, value))

    def test_by_the_words_of_the_document(self):
        """Point 66: whoever wrote the messages, it is so."""
        found = set()
        for graph, tables in trees(60):
            right = right_totals(graph, tables)
            told = totals_evidence(graph, tables)
            found.add(right)
            for count in (0, 1, right[0], right[0] + 1):
                for least in (None, 0, right[1], (right[1] or 0) + 1):
                    self.assertIs((count, least) == right, accepts_totals(graph, tables, count, least, told))
        self.assertIn((0, None), found)
        self.assertLess(40, len(found))

    def test_no_junction_tree(self):
        zero = (((0,), 1, 0),)
        self.assertIs(False, accepts_totals(RING, full_tables(RING, 0), 0, None, ((),) * 6))
        self.assertIs(False, accepts_totals(RING, ((((0,), 0),),) * 3, 1, 0, (zero,) * 6))
        for graph in NOT_TREES:
            for tables in (full_tables(graph, 1), ((),) * len(graph[1])):
                told = computed_messages(graph, tables)
                self.assertIs(False, accepts_totals(graph, tables, *right_totals(graph, tables), told))

    def test_any_value_at_all(self):
        for value in WRONG_MESSAGES + WRONG_VALUES + [POTENTIALS]:
            told = repr(value)
            self.assertIs(False, accepts_totals(GRAPH, TABLES, 2, 3, value), value)
            self.assertEqual(told, repr(value))
        for value in WRONG_VALUES:
            self.assertIs(False, accepts_totals((2, ((),), ()), ((((), 9),),), 1, 9, value), value)

    def test_wrong_arguments(self):
        leasts = [value for value in WRONG_NUMBERS if value is not None]
        for value in (TOLD, None):
            self.assert_refuses(lambda *before: accepts_totals(*before, value), (GRAPH, TABLES, 2, 3), [
                ("graph", WRONG_GRAPHS), ("tables", WRONG_TABLES), ("count", WRONG_NUMBERS + [None]),
                ("least", leasts)])
        self.assert_refuses(lambda *before: accepts_totals(*before, ()), (RING, full_tables(RING, 1), 1, None), GOOD + [
            ("count", [True]), ("least", [False])])


class ToldPotentialsTest(Case):
    def assert_right(self, graph, tables):
        """Potentials for the least cost, or for a bound of more than 100 times the number of the nodes."""
        told = told_potentials(graph, tables)
        count, least = right_totals(graph, tables)
        bound = least if count else 100 * len(graph[1]) + 1
        self.assertIs(True, accepts_bound(graph, tables, bound, told), (graph, tables))
        if count:
            self.assertIs(False, accepts_bound(graph, tables, bound + 1, told), (graph, tables))
            self.assertEqual(least, sum(plain_floors(graph, tables, told)))
        return count

    def test_example(self):
        told = self.assert_leaves_arguments(told_potentials, PAIR, PRICES)
        self.assertIs(True, accepts_cheapest(PAIR, PRICES, (0, 1, 1), told))
        self.assertIs(False, accepts_cheapest(PAIR, PRICES, (1, 0, 1), told))
        self.assert_right(PAIR, PRICES)

    def test_one_node(self):
        for tables in (((),), ((((), 0),),), ((((), 100),),)):
            self.assert_same((), told_potentials((2, ((),), ()), tables))
            self.assert_right((2, ((),), ()), tables)

    def test_dear_solutions(self):
        for graph in (STAR, GRAPH, BARE, (3, ((0, 1, 2),) * 5, ((0, 4), (1, 4), (2, 3), (3, 4)))):
            for cost in (0, 1, 100):
                self.assertLess(0, self.assert_right(graph, full_tables(graph, cost)))

    def test_no_solution(self):
        # All tables have rows, and two of them never agree, wherever they stand.
        for one, other in itertools.combinations(range(5), 2):
            for edges in (((0, 1), (1, 2), (2, 3), (3, 4)), ((0, 4), (1, 4), (2, 4), (3, 4)),
                          ((0, 4), (1, 3), (1, 4), (2, 3))):
                graph = (2, ((0,),) * 5, edges)
                for cost in (0, 100):
                    tables = list(full_tables(graph, cost))
                    tables[one], tables[other] = (((0,), cost),), (((1,), cost),)
                    self.assertEqual(0, self.assert_right(graph, tuple(tables)))
        self.assertEqual(0, self.assert_right(GRAPH, TABLES[:2] + ((),)))
        self.assertEqual(0, self.assert_right(GRAPH, ((), (), ())))

    def test_samples(self):
        """Point 70."""
        found = [0, 0]
        for graph, tables in trees(150):
            found[self.assert_right(graph, tables) > 0] += 1
        self.assertLess(60, min(found))

    def test_all_small_junction_trees(self):
        numbers = Numbers(70)
        for graph in many_graphs():
            if plain_is_junction_tree(graph):
                self.assert_right(graph, sample_tables(numbers, graph))

    def test_no_junction_tree(self):
        for graph in NOT_TREES:
            self.assert_not_possible("tree", told_potentials, graph, full_tables(graph, 1))
            self.assert_refuses(lambda tables: told_potentials(graph, tables), ((),), [("tables", [(), None])])

    def test_wrong_arguments(self):
        self.assert_refuses(told_potentials, (GRAPH, TABLES), [("graph", WRONG_GRAPHS), ("tables", WRONG_TABLES)])


# Potentials that are none, each for the graph with the scopes (0, 1) and (0, 2).
WRONG_POTENTIALS = WRONG_VALUES + [
    (), list(POTENTIALS), POTENTIALS * 2, POTENTIALS + ((),), (list(POTENTIALS[0]),), ((((1,), 4), ((0,), 2)),),
    ((((0,), 2), ((0,), 4)),), ((((0,), 2), ((0,), 2)),), ((((2,), 2),),), ((((-1,), 2),),), ((((True,), 2),),),
    ((((0.0,), 2),),), ((((), 2),),), ((((0, 0), 2),),), ((([0], 2),),), (([(0,), 2],),), ((((0,), 2, 0),),),
    ((((0,),),),), ((((0,), True),),), ((((0,), False),),), ((((0,), 2.0),),), ((((0,), "2"),),), ((((0,), None),),),
    ((((0,), MOST + 1),),), ((((0,), -MOST - 1),),), (((0,), 2),), ((0, 2),), TOLD]


class AcceptsBoundTest(Case):
    def test_example(self):
        self.assertIs(True, self.assert_leaves_arguments(accepts_bound, PAIR, PRICES, 3, POTENTIALS))
        self.assertIs(False, accepts_bound(PAIR, PRICES, 4, POTENTIALS))
        self.assertIs(True, accepts_bound(PAIR, PRICES, 2, ((),)))
        self.assertIs(False, accepts_bound(PAIR, PRICES, 3, ((),)))

    def test_pairs_that_are_left_out(self):
        # The first node has the costs 3, 1 and 0, the second one 2, 5 and 4; only the row 1 is changed here.
        for amount, bound in ((-2, 0), (-1, 1), (0, 2), (1, 3), (2, 3), (3, 2), (4, 1), (5, 0)):
            value = ((((1,), amount),),)
            self.assertIs(True, accepts_bound(PAIR, PRICES, bound, value))
            self.assertIs(False, accepts_bound(PAIR, PRICES, bound + 1, value))
        for amount in (-3, 6):
            self.assertIs(False, accepts_bound(PAIR, PRICES, 0, ((((1,), amount),),)))

    def test_costs_below_0(self):
        self.assertIs(False, accepts_bound(PAIR, PRICES, 0, ((((0,), -MOST),),)))
        self.assertIs(False, accepts_bound(PAIR, PRICES, 0, ((((0,), MOST),),)))
        only = ((((0, 0), 3),), (((0, 1), 2),))
        for amount in (-MOST, -1, 0, 1, MOST):
            self.assertIs(True, accepts_bound(PAIR, only, 5, ((((0,), amount),),)))
            self.assertIs(False, accepts_bound(PAIR, only, 6, ((((0,), amount),),)))

    def test_no_solution(self):
        """Point 69: bounds of more than 100 times the number of nodes, up to what amounts can be."""
        apart = ((((0, 0), 3),), (((1, 1), 4),))
        for least, value in ((7, ((),)), (MOST, ((((0,), MOST - 7),),)), (MOST, ((((1,), 7 - MOST),),)),
                             (201, ((((0,), 100), ((1,), -94)),))):
            self.assertIs(True, accepts_bound(PAIR, apart, least, value))
            if least < MOST:
                self.assertIs(False, accepts_bound(PAIR, apart, least + 1, value))
        self.assertIs(True, accepts_bound(PAIR, apart, MOST, ((((0,), MOST), ((1,), -MOST)),)))

    def test_an_empty_table(self):
        for tables in (((), PRICES[1]), (PRICES[0], ()), ((), ())):
            for bound in (0, 1, 201, MOST):
                for value in (((),), POTENTIALS, ((((0,), -MOST),),)):
                    self.assertIs(True, accepts_bound(PAIR, tables, bound, value))
                for value in WRONG_POTENTIALS:
                    self.assertIs(False, accepts_bound(PAIR, tables, bound, value), value)

    def test_one_node_and_no_edges(self):
        single = (2, ((3,),), ())
        self.assertIs(True, accepts_bound(single, ((((0,), 9), ((1,), 7)),), 7, ()))
        self.assertIs(False, accepts_bound(single, ((((0,), 9), ((1,), 7)),), 8, ()))
        several = (2, ((0,), (0,), ()), ())
        tables = ((((0,), 1),), (((1,), 2),), (((), 4),))
        self.assertIs(True, accepts_bound(several, tables, 7, ()))
        self.assertIs(False, accepts_bound(several, tables, 8, ()))

    def test_by_the_words_of_the_document(self):
        """Points 67 to 69: for any graph no solution costs less than a bound."""
        numbers = Numbers(67)
        found = [0, 0]
        for graph, tables in samples(120):
            costs = [cost for _, cost in plain_solutions(graph, tables)]
            for value in (sample_potentials(numbers, graph), ((),) * len(graph[2])):
                if () in tables:
                    self.assertIs(True, accepts_bound(graph, tables, MOST, value))
                    continue
                right = sum(plain_floors(graph, tables, value))
                for bound in (0, 1, 10, 50, 100, max(right - 1, 0), max(right, 0), max(right + 1, 0)):
                    told = accepts_bound(graph, tables, bound, value)
                    self.assertIs(bound <= right, told)
                    self.assertTrue(not told or all(bound <= cost for cost in costs))
                    found[told] += 1
        self.assertLess(100, min(found))

    def test_any_value_at_all(self):
        for value in WRONG_POTENTIALS:
            told = repr(value)
            self.assertIs(False, accepts_bound(PAIR, PRICES, 0, value), value)
            self.assertIs(False, accepts_cheapest(PAIR, PRICES, (0, 1, 1), value), value)
            self.assertEqual(told, repr(value))
        for value in WRONG_VALUES:
            self.assertIs(False, accepts_bound((2, ((),), ()), ((((), 9),),), 0, value), value)

    def test_over_the_shared_variables(self):
        graph = (3, ((0, 1), (0, 1, 2), ()), ((0, 1), (1, 2)))
        tables = full_tables(graph, 1)
        right = ((((0, 2), 1), ((2, 0), -1)), (((), 5),))
        self.assertIs(True, accepts_bound(graph, tables, 0, right))
        self.assertIs(True, accepts_bound(graph, tables, 0, (right[0], ())))
        self.assertIs(False, accepts_bound(graph, tables, 0, right[::-1]))
        self.assertIs(False, accepts_bound((2,) + graph[1:], full_tables((2,) + graph[1:], 1), 0, right))
        self.assertIs(False, accepts_bound(graph, tables, 0, ((((0,), 1),), (((), 5),))))

    def test_wrong_arguments(self):
        for value in (((),) * 2, None):
            self.assert_refuses(lambda *before: accepts_bound(*before, value), (GRAPH, TABLES, 3), [
                ("graph", WRONG_GRAPHS), ("tables", WRONG_TABLES), ("bound", WRONG_NUMBERS + [None])])


class AcceptsCheapestTest(Case):
    def test_example(self):
        told = told_potentials(PAIR, PRICES)
        self.assertIs(True, self.assert_leaves_arguments(accepts_cheapest, PAIR, PRICES, (0, 1, 1), told))
        self.assertIs(False, self.assert_leaves_arguments(accepts_cheapest, PAIR, PRICES, (1, 0, 1), told))
        self.assertIs(True, accepts_cheapest(PAIR, PRICES, (0, 1, 1), POTENTIALS))
        self.assertIs(False, accepts_cheapest(PAIR, PRICES, (0, 1, 1), ((),)))

    def test_by_the_words_of_the_document(self):
        """Point 70: of a junction tree, each of the cheapest solutions has evidence, and no other one has any."""
        found = 0
        for graph, tables in trees(60):
            told = told_potentials(graph, tables)
            solutions = plain_solutions(graph, tables)
            for row, cost in solutions:
                right = cost == min(each for _, each in solutions)
                self.assertIs(right, accepts_cheapest(graph, tables, row, told))
                found += right
        self.assertLess(50, found)

    def test_other_graphs(self):
        """Whoever wrote the potentials, what is accepted is one of the cheapest."""
        numbers = Numbers(71)
        found = [0, 0]
        for graph, tables in samples(150):
            for value in (sample_potentials(numbers, graph), ((),) * len(graph[2])):
                for row, cost in cheapest(graph, tables, 3):
                    told = accepts_cheapest(graph, tables, row, value)
                    self.assertIs(cost <= sum(plain_floors(graph, tables, value)), told)
                    self.assertTrue(not told or cost == cheapest(graph, tables, 1)[0][1])
                    found[told] += 1
        self.assertLess(20, min(found))
        zeros = ((((0,), 0), ((1,), 5)),) * 3
        self.assertIs(True, accepts_cheapest(RING, zeros, (0,), NOTHING))
        self.assertIs(False, accepts_cheapest(RING, zeros, (1,), NOTHING))

    def test_no_variables(self):
        tables = ((((), 3),), (((), 4),))
        for amount in (-MOST, 0, MOST):
            self.assertIs(True, accepts_cheapest(BARE, tables, (), ((((), amount),),)))
        self.assert_refuses(lambda *before: accepts_cheapest(*before, ((),)), (BARE, ((), ()), ()), GOOD + [
            ("row", [(), (0,), None])])

    def test_wrong_arguments(self):
        # The first one is no solution, as the last node rejects it, and the second one, as the node 1 does.
        rows = STRANGE + [(0, 0), (1, 0), (), (0,), (0, 1, 1), [0, 1], (0, 2), (False, 1), (0, True), (0, 1.0), "01", 1]
        for value in (((),) * 2, None):
            self.assert_refuses(lambda *before: accepts_cheapest(*before, value), (GRAPH, TABLES, (0, 1)), [
                ("graph", WRONG_GRAPHS), ("tables", WRONG_TABLES), ("row", rows)])


class CostsTest(Case):
    def test_all_costs_greater_by_1(self):
        """Point 71."""
        for graph, tables in trees(30):
            cheap = tuple(tuple((row, min(cost, 99)) for row, cost in table) for table in tables)
            dear = tuple(tuple((row, cost + 1) for row, cost in table) for table in cheap)
            count, least = right_totals(graph, cheap)
            more = least + len(graph[1]) if count else None
            self.assertIs(True, accepts_totals(graph, dear, count, more, totals_evidence(graph, dear)))

    def test_point_73(self):
        self.assertIs(True, accepts_totals(PAIR, PRICES, 4, 3, totals_evidence(PAIR, PRICES)))
        self.assertIs(True, accepts_cheapest(PAIR, PRICES, (0, 1, 1), told_potentials(PAIR, PRICES)))
