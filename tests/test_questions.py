"""Points 1 to 8, 97, 103, 105 and 106 as far as they speak of tabletalk.questions: what would be, and what is sure."""

from tabletalk.errors import BadValue
from tabletalk.projections import projection
from tabletalk.questions import implied, possible_values, sure_values, what_if
from tabletalk.solutions import count_solutions, variables
from tests.support import (BARE, GRAPH, LARGE, STRANGE, TABLES, WRONG_GRAPHS, WRONG_TABLES, Case, full_tables,
                           plain_solutions, samples)

PAIR = (2, ((0, 1), (1,)), ((0, 1),))
ROWS = ((((0, 0), 2), ((1, 1), 5)), (((1,), 1),))
BOTH = (ROWS[0], (((0,), 0), ((1,), 0)))
NOTHING = (ROWS[0], ())
WRONG_VARIABLES = STRANGE + [2, 5, 6, -1, (0,), [0], 0.0, "0"]
WRONG_VALUES = STRANGE + [2, 3, -1, (0,), [0], 1.0, "1"]
WRONG = [("graph", WRONG_GRAPHS), ("tables", WRONG_TABLES), ("variable", WRONG_VARIABLES), ("value", WRONG_VALUES)]


def questions(graph):
    return [(variable, value) for variable in variables(graph) for value in range(graph[0])]


def having(graph, found, variable, value):
    """Those of the solutions, pairs of a row and a cost, that have the value."""
    at = variables(graph).index(variable)
    return [(row, cost) for row, cost in found if row[at] == value]


def plain_pairs(graph, found):
    """The pairs that all of these solutions have."""
    rows = [dict(zip(variables(graph), row)) for row, _ in found]
    return tuple((variable, value) for variable, value in questions(graph)
                 if all(row[variable] == value for row in rows))


class WhatIfTest(Case):
    def test_example(self):
        self.assert_same((1, 6), self.assert_leaves_arguments(what_if, PAIR, ROWS, 0, 1))
        self.assert_same(None, what_if(PAIR, ROWS, 0, 0))
        self.assert_same((1, 6), what_if(PAIR, ROWS, 1, 1))

    def test_several_solutions(self):
        self.assert_same((1, 2), what_if(PAIR, BOTH, 0, 0))
        self.assert_same((2, 3), what_if(GRAPH, TABLES, 1, 1))
        self.assert_same((243, 500), what_if(LARGE, full_tables(LARGE, 100), 5, 2))
        self.assert_same((1, 0), what_if((3, ((4,),), ()), ((((0,), 7), ((2,), 0)),), 4, 2))

    def test_no_solution(self):
        for variable, value in questions(PAIR):
            self.assert_same(None, what_if(PAIR, NOTHING, variable, value))
        self.assert_same(None, what_if((3, ((4,),), ()), ((((0,), 7), ((2,), 0)),), 4, 1))

    def test_by_the_words_of_the_document(self):
        """Also point 103: with the question as a further table, the solutions are those that have it."""
        seen = [0, 0]
        for graph, tables in samples(120):
            solutions = plain_solutions(graph, tables)
            for variable, value in questions(graph):
                found = having(graph, solutions, variable, value)
                told = what_if(graph, tables, variable, value)
                seen[bool(found)] += 1
                self.assert_same((len(found), min(cost for _, cost in found)) if found else None, told)
                if len(graph[1]) < 5:
                    more = (graph[0], graph[1] + ((variable,),), graph[2])
                    asked = tables + ((((value,), 0),),)
                    self.assert_same(found, plain_solutions(more, asked))
                    self.assert_same(told[0] if told else 0, count_solutions(more, asked))
        self.assertLess(100, min(seen))

    def test_wrong_arguments(self):
        self.assert_refuses(what_if, (GRAPH, TABLES, 0, 1), WRONG)

    def test_values_of_the_graph(self):
        three = (3, ((0,),), ())
        self.assert_same((1, 4), what_if(three, ((((2,), 4),),), 0, 2))
        self.assert_refuses(lambda value: what_if(three, ((),), 0, value), (2,), [("value", [3, -1, True])])
        # No variable is one of a graph without variables.
        for variable in (0, 1, 5, None):
            for value in (0, 2):
                self.assert_raises_with(BadValue, "name", "variable", what_if, BARE, ((), ()), variable, value)


class SureValuesTest(Case):
    def test_example(self):
        self.assert_same(((0, 1), (1, 1)), self.assert_leaves_arguments(sure_values, PAIR, ROWS))

    def test_some_and_none(self):
        self.assert_same((), sure_values(PAIR, BOTH))
        self.assert_same(((1, 1),), sure_values(GRAPH, TABLES))
        self.assert_same(((4, 2),), sure_values((3, ((4,),), ()), ((((2,), 9),),)))
        self.assert_same((), sure_values(LARGE, full_tables(LARGE, 1)))

    def test_no_variables(self):
        self.assert_same((), sure_values(BARE, ((((), 7),), (((), 0),))))

    def test_by_the_words_of_the_document(self):
        found = set()
        for graph, tables in samples(150):
            rows = plain_solutions(graph, tables)
            if rows:
                told = sure_values(graph, tables)
                self.assert_same(plain_pairs(graph, rows), told)
                found.add(len(told))
            else:
                self.assert_not_possible("solutions", sure_values, graph, tables)
        self.assertLess(3, len(found))

    def test_no_solution(self):
        for graph, tables in ((PAIR, NOTHING), (PAIR, ((), ())), (BARE, ((((), 7),), ())), ((2, ((),), ()), ((),)),
                              (PAIR, ((((0, 0), 2),), (((1,), 1),)))):
            self.assert_not_possible("solutions", sure_values, graph, tables)

    def test_wrong_arguments(self):
        self.assert_refuses(sure_values, (GRAPH, TABLES), WRONG[:2])
        # What there is no solution of is told when nothing is wrong.
        self.assert_refuses(sure_values, (PAIR, NOTHING), [("graph", [None]), ("tables", [((), None)])])


class ImpliedTest(Case):
    def test_example(self):
        self.assert_same(((0, 0), (1, 0)), self.assert_leaves_arguments(implied, PAIR, BOTH, 1, 0))
        self.assert_same(((0, 1), (1, 1)), implied(PAIR, BOTH, 0, 1))

    def test_the_question_itself(self):
        self.assert_same(((1, 1),), implied(GRAPH, TABLES, 1, 1))
        self.assert_same(((0, 0), (1, 1)), implied(GRAPH, TABLES, 0, 0))
        self.assert_same(((3, 2),), implied(LARGE, full_tables(LARGE, 1), 3, 2))

    def test_none(self):
        self.assert_same(None, implied(PAIR, ROWS, 1, 0))
        self.assert_same(None, implied(PAIR, NOTHING, 1, 1))
        self.assert_same(None, implied(GRAPH, TABLES, 1, 0))

    def test_by_the_words_of_the_document(self):
        seen = set()
        for graph, tables in samples(120):
            solutions = plain_solutions(graph, tables)
            for variable, value in questions(graph):
                found = having(graph, solutions, variable, value)
                told = implied(graph, tables, variable, value)
                self.assert_same(plain_pairs(graph, found) if found else None, told)
                if found:
                    self.assertIn((variable, value), told)
                    seen.add(len(told))
        self.assertLess(4, len(seen))

    def test_wrong_arguments(self):
        self.assert_refuses(implied, (GRAPH, TABLES, 0, 1), WRONG)


class PossibleValuesTest(Case):
    def test_example(self):
        self.assert_same((), self.assert_leaves_arguments(possible_values, PAIR, NOTHING, 0))

    def test_some_values(self):
        self.assert_same((1,), possible_values(PAIR, ROWS, 0))
        self.assert_same((0, 1), possible_values(PAIR, BOTH, 0))
        self.assert_same((0, 2), possible_values((3, ((4,),), ()), ((((0,), 7), ((2,), 0)),), 4))
        self.assert_same((0, 1, 2), possible_values(LARGE, full_tables(LARGE, 1), 4))

    def test_by_the_words_of_the_document(self):
        for graph, tables in samples(80):
            rows = [row for row, _ in plain_solutions(graph, tables)]
            for at, variable in enumerate(variables(graph)):
                told = possible_values(graph, tables, variable)
                self.assert_same(tuple(value for value in range(graph[0]) if value in [row[at] for row in rows]), told)
                self.assert_same(told, tuple(row[0] for row, _, _ in projection(graph, tables, (variable,))))

    def test_wrong_arguments(self):
        self.assert_refuses(possible_values, (GRAPH, TABLES, 0), WRONG[:3])
        self.assert_refuses(lambda variable: possible_values(PAIR, ROWS, variable), (0,), [("variable", [2, 3, True])])


class ExampleTest(Case):
    def test_point_106(self):
        self.assert_same([((1, 1), 6)], plain_solutions(PAIR, ROWS))
        self.assert_same(((0, 1), (1, 1)), sure_values(PAIR, ROWS))
