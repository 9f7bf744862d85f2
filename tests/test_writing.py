"""Points 1 to 8 and 114 to 117 as far as they speak of tabletalk.writing: texts that are written."""

from tabletalk.reading import read_graph, read_tables
from tabletalk.scanning import scan
from tabletalk.writing import graph_text, tables_text
from tests.support import (BARE, GRAPH, LARGE, TABLES, WRONG_GRAPHS, WRONG_TABLES, Case, Numbers, full_tables,
                           many_graphs, sample_tables, samples)

PAIR = (2, ((0, 1), (1,)), ((0, 1),))
ROWS = ((((0, 0), 2), ((1, 1), 5)), (((1,), 1),))


def rewritten(text, between):
    """The text with so much between two tokens, and none inside of them."""
    return between.join(characters for _, characters, _ in scan(text))


class GraphTextTest(Case):
    def test_example(self):
        self.assert_same("2: 0 1, 1; 0-1", self.assert_leaves_arguments(graph_text, PAIR))
        self.assert_same("3:, 0 2;", graph_text((3, ((), (0, 2)), ())))

    def test_graphs(self):
        for graph, right in (((2, ((),), ()), "2:;"), ((3, ((5,),), ()), "3: 5;"), (BARE, "2:,; 0-1"),
                             (GRAPH, "2: 0, 0 1, 1; 0-1, 1-2"), ((2, ((),) * 5, ()), "2:,,,,;"),
                             ((2, ((0, 1, 2), (), (3,)), ((0, 1), (0, 2), (1, 2))), "2: 0 1 2,, 3; 0-1, 0-2, 1-2"),
                             ((3, ((), (4, 5)), ((0, 1),)), "3:, 4 5; 0-1")):
            self.assert_same(right, graph_text(graph))
        self.assert_same("3: 0 1 2, 1 2 3, 2 3 4, 3 4 5, 0 5; 0-1, 0-2, 0-3, 0-4, 1-2, 1-3, 1-4, 2-3, 2-4, 3-4",
                         graph_text(LARGE))

    def test_reading_what_was_written(self):
        """Point 115, also with other spaces."""
        for graph in list(many_graphs())[::3]:
            text = graph_text(graph)
            for other in (text, "  " + text + "   ", rewritten(text, " "), " " + rewritten(text, "   ")):
                self.assert_same(graph, read_graph(other))
            self.assertLessEqual(len(text), 2000)

    def test_wrong_arguments(self):
        self.assert_refuses(graph_text, (GRAPH,), [("graph", WRONG_GRAPHS)])


class TablesTextTest(Case):
    def test_example(self):
        self.assert_same("0 0 = 2, 1 1 = 5; 1 = 1", self.assert_leaves_arguments(tables_text, PAIR, ROWS))
        self.assert_same("0 1 = 7; ", tables_text(PAIR, ((((0, 1), 7),), ())))

    def test_tables(self):
        single, bare = (3, ((4,),), ()), (2, ((),), ())
        for graph, tables, right in (
                (single, ((),), ""), (bare, ((),), ""), (bare, ((((), 0),),), "= 0"), (bare, ((((), 100),),), "= 100"),
                (single, ((((0,), 10), ((2,), 0)),), "0 = 10, 2 = 0"), (BARE, ((), ()), "; "),
                (BARE, ((), (((), 5),)), "; = 5"), (BARE, ((((), 5),), (((), 6),)), "= 5; = 6"),
                (GRAPH, TABLES, "0 = 1, 1 = 0; 0 0 = 0, 0 1 = 2, 1 1 = 5; 1 = 0"), (LARGE, ((),) * 5, "; ; ; ; ")):
            self.assert_same(right, tables_text(graph, tables))

    def test_reading_what_was_written(self):
        """Point 115, also with other spaces."""
        for graph, tables in samples(150):
            text = tables_text(graph, tables)
            for other in (text, "  " + text + "   ", rewritten(text, " ")):
                if len(other) <= 2000:
                    self.assert_same(tables, read_tables(graph, other))

    def test_the_longest_text(self):
        graph = (3, ((0, 1, 2),) * 5, ())
        text = tables_text(graph, full_tables(graph, 100))
        self.assert_same(5 * (27 * 11 + 26 * 2) + 4 * 2, len(text))
        self.assert_same(full_tables(graph, 100), read_tables(graph, text))

    def test_spaces_that_part_numbers(self):
        """Point 115: spaces change nothing as long as the tokens stay the same; without some, others come."""
        graph = (2, ((0, 1),), ())
        self.assert_same(((((0, 1), 10),),), read_tables(graph, "0 1=10"))
        self.assert_same([("number", "01", 1), ("sign", "=", 3), ("number", "10", 4), ("end", "", 6)], scan("01=10"))
        numbers = Numbers(115)
        for given in list(many_graphs())[:40]:
            tables = sample_tables(numbers, given)
            text = tables_text(given, tables)
            for sign in ("=", ",", ";"):
                text = text.replace(" " + sign, sign).replace(sign + " ", sign)
            self.assert_same(tables, read_tables(given, text))

    def test_wrong_arguments(self):
        self.assert_refuses(tables_text, (GRAPH, TABLES), [("graph", WRONG_GRAPHS), ("tables", WRONG_TABLES)])


class ExampleTest(Case):
    def test_point_117(self):
        self.assert_same(("2: 0 1, 1; 0-1", "0 0 = 2, 1 1 = 5; 1 = 1"), (graph_text(PAIR), tables_text(PAIR, ROWS)))
