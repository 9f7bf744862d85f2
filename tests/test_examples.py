"""The examples of the interface, as the document has them."""

import doctest
import unittest

EXAMPLES = {
    "tables and joins": """
>>> from tabletalk.joins import as_message, early, join, project, restrict, total
>>> from tabletalk.tables import is_message, is_table
>>> table = (((0, 0), 3), ((0, 1), 1), ((1, 1), 5))
>>> one = as_message(2, (0, 1), table)
>>> two = as_message(2, (1, 2), (((1, 0), 2), ((1, 1), 0)))
>>> one, project(2, (0, 1), one, (0,)), total(2, (0, 1), one)
((((0, 0), 1, 3), ((0, 1), 1, 1), ((1, 1), 1, 5)), (((0,), 2, 1), ((1,), 1, 5)), (3, 1))
>>> join(2, (0, 1), one, (1, 2), two)
(((0, 1, 0), 1, 3), ((0, 1, 1), 1, 1), ((1, 1, 0), 1, 7), ((1, 1, 1), 1, 5))
>>> early(2, (0, 1), one, (1, 2), two, (0,)), restrict(2, (0, 1), one, 1, 0)
((((0,), 2, 1), ((1,), 2, 5)), (((0, 0), 1, 3),))
>>> is_table(2, (0, 1), table), is_message(2, (), (((), 5, 0),)), project(2, (0, 1), (), ())
(True, True, ())
""",
    "solutions and projections": """
>>> from tabletalk.projections import part_projection, projection
>>> from tabletalk.solutions import are_tables, count_solutions, index_of_solution, is_graph, nth_solution, rejecting
>>> from tabletalk.solutions import variables
>>> graph = (2, ((0,), (0, 1), (1,)), ((0, 1), (1, 2)))
>>> tables = ((((0,), 1), ((1,), 0)), (((0, 0), 0), ((0, 1), 2), ((1, 1), 5)), (((1,), 0),))
>>> is_graph(graph), are_tables(graph, tables), variables(graph), count_solutions(graph, tables)
(True, True, (0, 1), 2)
>>> nth_solution(graph, tables, 0), nth_solution(graph, tables, 1), index_of_solution(graph, tables, (0, 0)) is None
(((0, 1), 3), ((1, 1), 5), True)
>>> rejecting(graph, tables, (0, 0)), rejecting(graph, tables, (1, 0)), rejecting(graph, tables, (1, 1)) is None
(2, 1, True)
>>> projection(graph, tables, (0,)), projection(graph, tables, (1,)), projection(graph, tables, ())
((((0,), 1, 3), ((1,), 1, 5)), (((1,), 2, 3),), (((), 2, 3),))
>>> part_projection(graph, tables, (0, 1), (1,)), part_projection(graph, tables, (2,), (1,))
((((0,), 1, 1), ((1,), 2, 3)), (((1,), 1, 0),))
""",
    "graphs and defects": """
>>> from tabletalk.defects import accepts_defect, accepts_order, defect, good_order
>>> from tabletalk.graphs import is_junction_tree, shared_variables, told_way, two_counts
>>> row = (2, ((0, 1), (1, 2), (0, 2)), ((0, 1), (1, 2)))
>>> shared_variables(row, 0, 2), told_way(row, 0, 2), is_junction_tree(row), two_counts(row)
((0,), (0, 1, 2), False, (1, 1))
>>> defect(row), defect((2, ((0, 1), (1, 2), (0, 2)), ((0, 1), (0, 2), (1, 2)))), defect((2, ((0,), (0,)), ()))
(('split', 0, (0,)), ('cycle', (0, 1, 2)), ('apart', (0,)))
>>> accepts_defect(row, ("split", 0, (2,))), accepts_defect(row, ("split", 1, (0,)))
(True, False)
>>> star = (2, ((0, 1), (0,), (1, 2), ()), ((0, 1), (0, 2), (2, 3)))
>>> good_order(star), accepts_order(star, (3, 2, 0, 1)), accepts_order(star, (3, 0, 2, 1)), two_counts(star)
((0, 1, 2, 3), True, False, (1, 0))
""",
    "messages and rounds": """
>>> from tabletalk.messages import are_messages, belief, inconsistent, required_message, total
>>> from tabletalk.rounds import computed_messages, count_rounds
>>> graph = (2, ((0,), (0, 1), (1,)), ((0, 1), (1, 2)))
>>> tables = ((((0,), 1), ((1,), 0)), (((0, 0), 0), ((0, 1), 2), ((1, 1), 5)), (((1,), 0),))
>>> computed_messages(graph, tables)[:2]
((((0,), 1, 1), ((1,), 1, 0)), (((0,), 1, 2), ((1,), 1, 5)))
>>> computed_messages(graph, tables)[2:], count_rounds(graph, tables)
(((((0,), 1, 1), ((1,), 2, 3)), (((1,), 1, 0),)), 2)
>>> told = computed_messages(graph, tables)
>>> inconsistent(graph, tables, told), belief(graph, tables, told, 2), total(graph, told, 0), total(graph, told, 1)
((), (((1,), 2, 3),), (2, 3), (2, 3))
>>> less = ((((0,), 1, 1),),) + told[1:]
>>> are_messages(graph, less), inconsistent(graph, tables, less), required_message(graph, tables, less, 1, 2)
(True, ((0, 1), (1, 2)), (((0,), 1, 1), ((1,), 1, 3)))
>>> total(graph, less, 0)
(1, 3)
""",
    "trust and silence": """
>>> from tabletalk.silence import other_messages, silent
>>> from tabletalk.trust import deceived, is_counterexample, is_trusted, misjudged, told_counterexample
>>> ring = (2, ((0,), (0,), (0,)), ((0, 1), (0, 2), (1, 2)))
>>> is_trusted(ring), told_counterexample(ring)
(False, (((((0,), 0),), (((0,), 0),), (((0,), 0),)), ((), (), (), (), (), ())))
>>> tables, messages = told_counterexample(ring)
>>> deceived(ring, tables, messages), misjudged(ring, tables, messages, 0), is_counterexample(ring, (tables, messages))
((0, 1, 2), (((0,), None, (1, 0)),), True)
>>> silent(ring), other_messages(ring)[0], is_counterexample(ring, (tables, other_messages(ring)))
(((0, 1), (0, 2), (1, 0), (1, 2), (2, 0), (2, 1)), (((0,), 1, 0),), False)
>>> split = (2, ((0,), (), (0,)), ((0, 1), (1, 2)))
>>> told_counterexample(split)[0], deceived(split, *told_counterexample(split)), silent(split)
(((((0,), 0),), (((), 0),), (((1,), 0),)), (0, 1, 2), ())
>>> other_messages(split) is None
True
>>> is_trusted((2, ((0,), (0, 1), (1,)), ((0, 1), (1, 2)))), told_counterexample((2, ((),), ())) is None
(True, True)
""",
    "bounds and costs": """
>>> from tabletalk.bounds import accepts_bound, accepts_cheapest, accepts_totals, told_potentials, totals_evidence
>>> from tabletalk.costs import cheapest, excesses, moved, value_counts
>>> graph = (2, ((0, 1), (0, 2)), ((0, 1),))
>>> tables = ((((0, 0), 3), ((0, 1), 1), ((1, 0), 0)), (((0, 1), 2), ((1, 0), 5), ((1, 1), 4)))
>>> cheapest(graph, tables, 2), value_counts(graph, tables, 1), excesses(graph, tables, 0)
([((0, 1, 1), 3), ((1, 0, 1), 4)], ((3, 4), (1, 3)), (((0, 0), 2), ((0, 1), 0), ((1, 0), 1)))
>>> moved(graph, tables, 1, 0, (1,), 4)
((((0, 0), 3), ((0, 1), 1), ((1, 0), 4)), (((0, 1), 2), ((1, 0), 1), ((1, 1), 0)))
>>> told = totals_evidence(graph, tables)
>>> accepts_totals(graph, tables, 4, 3, told), accepts_totals(graph, tables, 4, 2, told)
(True, False)
>>> value = ((((0,), 2), ((1,), 4)),)
>>> accepts_bound(graph, tables, 3, value), accepts_bound(graph, tables, 4, value)
(True, False)
>>> accepts_bound(graph, tables, 2, ((),))
True
>>> told = told_potentials(graph, tables)
>>> accepts_cheapest(graph, tables, (0, 1, 1), told), accepts_cheapest(graph, tables, (1, 0, 1), told)
(True, False)
""",
    "late messages": """
>>> from tabletalk.late import beliefs, effects, is_settled, on_the_way, tables_behind
>>> graph = (2, ((0,), (0, 1), (1,)), ((0, 1), (1, 2)))
>>> tables = ((((0,), 1),), (((0, 1), 2),), (((1,), 0),))
>>> on_the_way(graph, tables, (("remove", 2, (1,)),)), is_settled(graph, tables, (("remove", 2, (1,)),))
(((2, 1, 1),), False)
>>> actions = (("remove", 2, (1,)), ("deliver", 0))
>>> beliefs(graph, tables, actions), on_the_way(graph, tables, actions)
(((((0,), 1, 3),), (), ()), ((1, 0, 1),))
>>> late = (("remove", 2, (1,)), ("set", 2, (1,), 4), ("deliver", 1), ("deliver", 0), ("settle",))
>>> effects(graph, tables, late), is_settled(graph, tables, late), beliefs(graph, tables, late)
((1, 1, 1, 0, 1), True, ((((0,), 1, 7),), (((0, 1), 1, 7),), (((1,), 1, 7),)))
>>> tables_behind(graph, tables, late)[2], effects(graph, tables, (("remove", 2, (1,)), ("lose", 0), ("settle",)))
((((1,), 4),), (1, 0, 2))
""",
    "edges and removals": """
>>> from tabletalk.edges import accepts_additions, count_making, due_number, first_making, makes_tree, most_shared
>>> from tabletalk.edges import shared_number, told_tree
>>> from tabletalk.removals import accepts_removal, edge_evidence
>>> ring = ((0, 1), (1, 2), (0, 2))
>>> count_making(ring), first_making(ring) is None, most_shared(ring), due_number(ring)
(0, True, 2, 3)
>>> told_tree(ring), edge_evidence(ring)
((((0, 1), (0, 2)), ((0, 2),)), ('stuck', ()))
>>> row = ((0, 1), (0,), (1,))
>>> edge_evidence(row), accepts_removal(row, ("edges", ((2, 0), (0, 1))))
(('edges', ((1, 0), (0, 2))), True)
>>> count_making(((0,), (1,), (2,))), first_making(row)
(3, ((0, 1), (0, 2)))
>>> accepts_additions(ring, ((0, 1), (1, 2)), ((1, 0),)), accepts_additions(ring, ((0, 1), (0, 2)), ((1, 0),))
(True, False)
>>> makes_tree(row, ((0, 1), (1, 2)))
False
>>> shared_number(ring, ((0, 1), (0, 2), (1, 2))), accepts_removal(ring + ((2, 5),), ("stuck", ((3, 2),)))
(3, True)
""",
    "questions, verdicts and enough": """
>>> from tabletalk.enough import is_enough, needed, smallest_enough
>>> from tabletalk.questions import implied, possible_values, sure_values, what_if
>>> from tabletalk.verdicts import accepts_verdict, verdict, verdict_evidence
>>> graph = (2, ((0, 1), (1,)), ((0, 1),))
>>> tables = ((((0, 0), 2), ((1, 1), 5)), (((1,), 1),))
>>> sure_values(graph, tables), what_if(graph, tables, 0, 1), what_if(graph, tables, 0, 0) is None
(((0, 1), (1, 1)), (1, 6), True)
>>> verdict(graph, tables, 0, 1), verdict(graph, tables, 0, 0)
('always', 'never')
>>> both = (tables[0], (((0,), 0), ((1,), 0)))
>>> verdict(graph, both, 0, 0)
'sometimes'
>>> smallest_enough(graph, tables, 1, 1), smallest_enough(graph, tables, 0, 1), needed(graph, tables, 0, 1)
((1,), (0, 1), (0, 1))
>>> is_enough(graph, tables, (0,), 0, 1)
False
>>> accepts_verdict(graph, tables, 0, 0, ("never", ("by", 1, (("no", 1), ("no", 0)))))
True
>>> accepts_verdict(graph, tables, 0, 0, ("never", ("no", 0)))
False
>>> implied(graph, both, 1, 0), possible_values(graph, (tables[0], ()), 0)
(((0, 0), (1, 0)), ())
""",
    "reading and writing": """
>>> from tabletalk.reading import next_tokens, read_graph, read_tables
>>> from tabletalk.writing import graph_text, tables_text
>>> graph = read_graph("2: 0 1, 1; 0-1")
>>> graph, read_tables(graph, "0 0 = 2, 1 1 = 5; 1 = 1"), read_tables(graph, ";")
((2, ((0, 1), (1,)), ((0, 1),)), ((((0, 0), 2), ((1, 1), 5)), (((1,), 1),)), ((), ()))
>>> graph_text((3, ((), (0, 2)), ())), tables_text(graph, ((((0, 1), 7),), ())), graph_text(graph)
('3:, 0 2;', '0 1 = 7; ', '2: 0 1, 1; 0-1')
>>> next_tokens("2: 0", "graph"), next_tokens("2:;", "graph")
(['a number', '","', '";"'], ['a number', 'the end'])
>>> next_tokens("", "tables"), next_tokens("0 = 1", "tables")
(['a number', '";"', '"="', 'the end'], ['","', '";"', 'the end'])
>>> from tabletalk.errors import TextError
>>> try:
...     read_graph("2: 1 0, 1; 0-1")
... except TextError as error:
...     error.column, error.words
(6, 'variables ascend')
""",
    "network and journals": """
>>> from tabletalk.journals import are_right, replayed
>>> from tabletalk.network import Network
>>> network = Network((2, ((0,), (0, 1), (1,)), ((0, 1), (1, 2))))
>>> network.act(("set", 0, (0,), 1)), network.act(("set", 1, (0, 1), 2)), network.act(("set", 2, (1,), 0))
(1, 0, 1)
>>> network.on_the_way()
((0, 1, 1), (2, 1, 1))
>>> network.act(("deliver", 1)), network.on_the_way(), network.is_settled(), network.act(("settle",))
(1, ((0, 1, 1), (1, 0, 1)), False, 3)
>>> network.total(), network.belief(2)
((1, 3), (((1,), 1, 3),))
>>> network.undo(), network.on_the_way(), network.records()[3]
(('settle',), ((0, 1, 1), (1, 0, 1)), (('deliver', 1), 1))
>>> are_right((2, ((0,),), ()), ((("set", 0, (1,), 5), 0), (("settle",), 0)))
True
>>> replayed((2, ((0,),), ()), (("set", 0, (1,), 5),)).total()
(1, 5)
""",
}


class ExamplesTest(unittest.TestCase):
    def test_interface(self):
        for name, text in EXAMPLES.items():
            with self.subTest(name):
                told = []
                runner = doctest.DocTestRunner(verbose=False)
                runner.run(doctest.DocTestParser().get_doctest(text, {}, name, None, 0), out=told.append)
                self.assertEqual((0, ""), (runner.failures, "".join(told)))
                self.assertLess(0, runner.tries)
