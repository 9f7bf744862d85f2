"""Points 1 to 8 and 107 to 117 as far as they speak of tabletalk.reading: grammars, problems of texts, and reading."""

import itertools
import re

from tabletalk.errors import BadValue, TextError
from tabletalk.reading import next_tokens, read_graph, read_tables
from tabletalk.solutions import are_tables, is_graph
from tabletalk.writing import graph_text, tables_text
from tests.support import BARE, GRAPH, LARGE, WRONG_GRAPHS, Case, Numbers, sample_graph, sample_tables
from tests.test_scanning import WRONG_TEXTS, plain_scan

PAIR = (2, ((0, 1), (1,)), ((0, 1),))
WRONG_KINDS = [value for value in WRONG_TEXTS if not isinstance(value, str)] + [
    "", "graphs", "Graph", "table", "tables ", "GRAPH", "row", "values", "end", b"graph", ("graph",), ["tables"], None]
# The grammars of point 109, with n for a number and $ for the end.
GRAMMARS = {"graph": "n:n*(,n*)*;(n-n(,n-n)*)?[$]", "tables": "{0}(;{0})*[$]".format("((n*=n)(,n*=n)*)?")}
# With one of these each beginning of a text of a grammar can be completed.
ENDS = {"graph": ("n:;$", ":;$", ";$", "-n$", "n$", "n-n$", "$", ""), "tables": ("$", "=n$", "n$", "")}
NAMES = {"n": "a number", "$": "the end"}


def symbols(tokens):
    return "".join({"number": "n", "end": "$"}.get(kind, characters) for kind, characters, _ in tokens)


def plain_coming(kind, before):
    """Point 110, word by word: what can come behind these symbols."""
    return [NAMES.get(sign, '"' + sign + '"') for sign in "n:,;-=$"
            if any(re.fullmatch(GRAMMARS[kind], before + sign + rest) for rest in ENDS[kind])]


def plain_expected(kind, tokens):
    """The column and the words of the first token that cannot come at its place, or None."""
    told = symbols(tokens)
    for at, token in enumerate(tokens):
        coming = plain_coming(kind, told[:at])
        if NAMES.get(told[at], '"' + told[at] + '"') not in coming:
            return token[2], "expected " + re.sub("(.*), ", r"\1 or ", ", ".join(coming))
    return None


def split_at(tokens, signs):
    """The tokens between those that are one of the signs, and the tokens that are."""
    parts, found = [[]], []
    for token in tokens:
        if token[1] in signs:
            found.append(token)
            parts.append([])
        else:
            parts[-1].append(token)
    return parts, found


def graph_problems(tokens):
    """All that point 112 names, as triples of a column, a number that tells which one comes first there, and words."""
    told = [int(token[1]) if token[0] == "number" else None for token in tokens]
    (head, tail), _ = split_at(tokens[:-1], ";")
    scopes, commas = split_at(head[2:], ",")
    edges = [[token for token in edge if token[0] == "number"] for edge in split_at(tail, ",")[0] if edge]
    found = [(tokens[0][2], 0, "there are 2 or 3 values")] if told[0] not in (2, 3) else []
    for scope in scopes:
        worth = [int(token[1]) for token in scope]
        for at, token in enumerate(scope):
            found += [(token[2], 0, "a scope has at most 3 variables")] if at == 3 else []
            found += [(token[2], 1, "a variable is from 0 to 5")] if worth[at] > 5 else []
            found += [(token[2], 2, "variables ascend")] if at and worth[at] <= worth[at - 1] else []
    found += [(comma[2], 0, "there are at most 5 nodes") for comma in commas[4:]]
    worth = [(int(one[1]), int(other[1])) for one, other in edges]
    for at, (one, other) in enumerate(edges):
        found += [(token[2], 0, "there is no such node") for token in (one, other) if int(token[1]) >= len(scopes)]
        found += [(other[2], 1, "an edge ascends")] if worth[at][0] >= worth[at][1] else []
        found += [(other[2], 2, "edges ascend")] if at and worth[at] <= worth[at - 1] else []
    return found


def table_problems(graph, tokens):
    """All that point 113 names, likewise, as far as there is a scope."""
    found = []
    tables, semicolons = split_at(tokens[:-1], ";")
    found += [(token[2], 0, "there is no such node") for token in semicolons[len(graph[1]) - 1:]]
    found += [(tokens[-1][2], 0, "a table is missing")] if len(tables) < len(graph[1]) else []
    for scope, table in zip(graph[1], tables):
        rows = [row for row in split_at(table, ",")[0] if row]
        worth = [tuple(int(token[1]) for token in row[:-2]) for row in rows]
        for at, row in enumerate(rows):
            equals, cost = row[-2:]
            found += [(token[2], 0, "there is no such variable") for token in row[:-2][len(scope):]]
            found += [(token[2], 1, "there is no such value") for token in row[:-2] if int(token[1]) >= graph[0]]
            found += [(equals[2], 0, "a value is missing")] if len(row) - 2 < len(scope) else []
            found += [(equals[2], 1, "rows ascend")] if at and worth[at] <= worth[at - 1] else []
            found += [(cost[2], 0, "a cost is from 0 to 100")] if int(cost[1]) > 100 else []
    return found


def plain_problem(kind, text, graph=None):
    """The column and the words of the problem that is reported, or None."""
    tokens = plain_scan(text)
    if isinstance(tokens, tuple):
        return tokens
    expected = plain_expected(kind, tokens)
    if expected is not None:
        return expected
    found = graph_problems(tokens) if kind == "graph" else table_problems(graph, tokens)
    return min(found)[::2] if found else None


def spaced(numbers, pieces):
    """The pieces with some spaces around and between them, with one at least between two numbers."""
    text = " " * numbers.below(3)
    for piece in pieces:
        between = numbers.below(2) + numbers.below(2)
        if text and text[-1].isdigit() and piece[0].isdigit():
            between = max(between, 1)
        text += " " * between + piece
    return text + " " * numbers.below(3)


def pieces_of(text):
    return re.findall("[0-9]+|[^ ]", text)


def changed(numbers, pieces):
    """The pieces with some of them changed, left out or put in."""
    pieces = list(pieces)
    for _ in range(numbers.below(3)):
        at = numbers.below(len(pieces) + 1)
        new = numbers.among(["0", "1", "2", "3", "4", "5", "6", "7", "100", "101", "00", "01", "012", "1234567", "?"]
                            + list(":,;-=;,=") + ["0", "1", "2"] * 3)
        way = numbers.below(8)
        if way == 0:
            pieces[at:at] = [new]
        elif way == 1:
            pieces[at:at + 1] = []
        elif at < len(pieces):
            # Most often a number stays a number, and a sign a sign.
            pieces[at:at + 1] = [new if way == 2 or pieces[at].isdigit() == new.isdigit() else pieces[at]]
    return pieces


class TextCase(Case):
    def assert_problem(self, column, words, function, *arguments):
        with self.assertRaises(TextError) as caught:
            function(*arguments)
        self.assertIs(TextError, caught.exception.__class__)
        self.assert_same((column, words), (caught.exception.column, caught.exception.words))


class NextTokensTest(TextCase):
    def test_example(self):
        told = self.assert_leaves_arguments(next_tokens, "2: 0", "graph")
        self.assert_same(["a number", '","', '";"'], told)
        self.assert_same(["a number", "the end"], next_tokens("2:;", "graph"))
        self.assert_same(["a number", '";"', '"="', "the end"], next_tokens("", "tables"))
        self.assert_same(['","', '";"', "the end"], next_tokens("0 = 1", "tables"))

    def test_each_place_of_a_graph(self):
        in_scope = ["a number", '","', '";"']
        for text, right in (("", ["a number"]), ("2", ['":"']), ("2:", in_scope), ("2:0", in_scope), ("2:,", in_scope),
                            ("2:0 1 2,", in_scope), ("2:0,1", in_scope), ("2:;", ["a number", "the end"]),
                            ("2:0,1;", ["a number", "the end"]), ("2:;0", ['"-"']), ("2:;0-", ["a number"]),
                            ("2:;0-1", ['","', "the end"]), ("2:;0-1,", ["a number"]), ("2:;0-1,0", ['"-"']),
                            ("2:;0-1,0-", ["a number"]), ("2:;0-1,0-2", ['","', "the end"])):
            self.assert_same(right, next_tokens(text, "graph"))
            self.assert_same(right, next_tokens(" " + "  ".join(pieces_of(text)) + " ", "graph"))

    def test_each_place_of_tables(self):
        start = ["a number", '";"', '"="', "the end"]
        in_row = ["a number", '"="']
        behind = ['","', '";"', "the end"]
        for text, right in (("", start), ("0", in_row), ("0 1 1 1", in_row), ("=", ["a number"]),
                            ("0=", ["a number"]),
                            ("=5", behind), ("0 1=5", behind), ("=5,", in_row), ("=5,0", in_row),
                            ("=5,=", ["a number"]),
                            ("=5,=6", behind), (";", start), (";;", start), ("=5;", start), ("0=5,1=6;", start),
                            (";0", in_row), (";0=1", behind)):
            self.assert_same(right, next_tokens(text, "tables"))
            self.assert_same(right, next_tokens(" " + "  ".join(pieces_of(text)) + " ", "tables"))

    def test_only_the_grammar_is_asked(self):
        """What numbers there are, and how many, does not matter for what can come."""
        self.assert_same(["a number", '","', '";"'], next_tokens("9: 7 7 7 7 7, 0, 1, 2, 3, 4, 5, 6", "graph"))
        self.assert_same(['","', "the end"], next_tokens("0: ; 9-9, 8-8", "graph"))
        self.assert_same(['","', '";"', "the end"], next_tokens("9 9 9 = 999999; ; ; ; ; ; = 0", "tables"))

    def test_no_beginning(self):
        for text, column, words in ((":", 1, "a number"), ("2 2", 3, '":"'), ("2:-", 3, 'a number, "," or ";"'),
                                    ("2:0;=", 5, "a number or the end"), ("2:;0 1", 6, '"-"'),
                                    ("2:;0--", 6, "a number"),
                                    ("2:;0-1;", 7, '"," or the end'), ("2:;0-1,,", 8, "a number"),
                                    ("2::", 3, 'a number, "," or ";"'), ("2:;,", 4, "a number or the end")):
            self.assert_problem(column, "expected " + words, next_tokens, text, "graph")
            self.assert_problem(column, "expected " + words, read_graph, text)
        for text, column, words in (("0,", 2, 'a number or "="'), ("==", 2, "a number"), ("0-", 2, 'a number or "="'),
                                    (",", 1, 'a number, ";", "=" or the end'), ("=1 1", 4, '",", ";" or the end'),
                                    ("=1,;", 4, 'a number or "="'), (":", 1, 'a number, ";", "=" or the end'),
                                    (";;-", 3, 'a number, ";", "=" or the end'), ("=1=", 3, '",", ";" or the end')):
            self.assert_problem(column, "expected " + words, next_tokens, text, "tables")
            self.assert_problem(column, "expected " + words, read_tables, GRAPH, text)

    def test_problems_of_tokens_come_first(self):
        for kind in ("graph", "tables"):
            self.assert_problem(4, "no token begins here", next_tokens, "-- ?", kind)
            self.assert_problem(3, "a number has at most 6 digits", next_tokens, ": 1234567 ?", kind)
            self.assert_problem(1, "no token begins here", next_tokens, "? 1234567", kind)

    def test_all_short_texts(self):
        """By the grammars, written as regular expressions: all beginnings of few tokens, and one token more."""
        for kind, longest, different in (("graph", 8, 6), ("tables", 6, 4)):
            seen = set()
            beginnings = [""]
            for _ in range(longest):
                texts = [text + piece + " " for text in beginnings for piece in "0:,;-="]
                beginnings = []
                for text in texts:
                    tokens = plain_scan(text)[:-1]
                    right = plain_expected(kind, tokens)
                    if right is None:
                        told = next_tokens(text, kind)
                        self.assert_same(plain_coming(kind, symbols(tokens)), told)
                        beginnings.append(text)
                        seen.add(tuple(told))
                    else:
                        self.assert_problem(*right, next_tokens, text, kind)
                        self.assert_problem(*right, *((read_graph,) if kind == "graph" else (read_tables, PAIR)), text)
            self.assertEqual(different, len(seen))

    def test_a_returned_list_is_not_used_again(self):
        next_tokens("2: 0", "graph").clear()
        self.assert_same(["a number", '","', '";"'], next_tokens("2: 0", "graph"))

    def test_wrong_arguments(self):
        self.assert_refuses(next_tokens, ("", "graph"), [("text", WRONG_TEXTS), ("kind", WRONG_KINDS)])
        # Only behind these is the text looked at.
        for value in WRONG_KINDS:
            self.assert_raises_with(BadValue, "name", "kind", next_tokens, "?", value)

    def test_as_many_characters_as_can_be(self):
        self.assert_same(["a number"], next_tokens(" " * 2000, "graph"))
        self.assert_same(["a number", '";"', '"="', "the end"], next_tokens(";" * 2000, "tables"))
        self.assert_same(["a number", '"="'], next_tokens("0 " * 1000, "tables"))
        self.assert_problem(2000, 'expected a number or "="', next_tokens, "0" + " " * 1998 + ";", "tables")


class ReadGraphTest(TextCase):
    def assert_graph_problem(self, column, words, text):
        self.assertEqual((column, words), plain_problem("graph", text))
        self.assert_problem(column, words, read_graph, text)

    def test_example(self):
        self.assert_same(PAIR, self.assert_leaves_arguments(read_graph, "2: 0 1, 1; 0-1"))
        self.assert_problem(6, "variables ascend", read_graph, "2: 1 0, 1; 0-1")

    def test_graphs(self):
        for text, right in (("2:;", (2, ((),), ())), ("3:,;", (3, ((), ()), ())),
                            ("3 : , 0 2 ;", (3, ((), (0, 2)), ())),
                            ("2:,;0-1", BARE), ("2:0 1 2,3 4 5;0-1", (2, ((0, 1, 2), (3, 4, 5)), ((0, 1),))),
                            ("2:,,,,;", (2, ((),) * 5, ())),
                            ("2:0,,0,,0;0-1,0-4,1-2", (2, ((0,), (), (0,), (), (0,)), ((0, 1), (0, 4), (1, 2))))):
            self.assert_same(right, read_graph(text))
            self.assert_same(right, read_graph("  " + " ".join(pieces_of(text)) + "  "))

    def test_zeros_ahead(self):
        self.assert_same(PAIR, read_graph("000002: 00 01, 000001; 00-001"))
        self.assert_problem(4, "a number has at most 6 digits", read_graph, "2: 0000001, 1; 0-1")
        self.assert_graph_problem(6, "variables ascend", "2: 1 01; ")

    def test_values(self):
        for number in ("0", "1", "4", "22", "000", "999999"):
            self.assert_graph_problem(1, "there are 2 or 3 values", number + ":;")
            self.assert_graph_problem(3, "there are 2 or 3 values", "  " + number + ": 9 9 9 9, , , , , ; 9-9")

    def test_variables(self):
        self.assert_graph_problem(10, "a scope has at most 3 variables", "2: 0 1 2 3;")
        # Of several problems at one token the first one is told.
        for fourth in ("0", "2", "6", "999"):
            self.assert_graph_problem(10, "a scope has at most 3 variables", "2: 0 1 2 " + fourth + ";")
        self.assert_graph_problem(8, "variables ascend", "2: 0 1 0 9;")
        self.assert_graph_problem(8, "a variable is from 0 to 5", "2: 0 1 6;")
        self.assert_graph_problem(4, "a variable is from 0 to 5", "2: 6 6;")
        self.assert_graph_problem(9, "a variable is from 0 to 5", "3: 0, 5 7;")
        for one, other in itertools.product(range(6), repeat=2):
            if one < other:
                self.assert_same((3, ((one, other),), ()), read_graph("3:{} {};".format(one, other)))
            else:
                self.assert_graph_problem(5, "variables ascend", "3:{} {};".format(one, other))
        # Each scope begins anew.
        self.assert_same((2, ((5,), (0,)), ()), read_graph("2:5,0;"))

    def test_nodes(self):
        self.assert_same((2, ((0,),) * 5, ()), read_graph("2:0,0,0,0,0;"))
        self.assert_graph_problem(12, "there are at most 5 nodes", "2:0,0,0,0,0,0;")
        self.assert_graph_problem(7, "there are at most 5 nodes", "2:,,,,,;")
        self.assert_graph_problem(7, "there are at most 5 nodes", "2:,,,,,,,9;9-9")
        self.assert_graph_problem(7, "a variable is from 0 to 5", "2:,,,,6,;")

    def test_edges(self):
        self.assert_graph_problem(4, "there is no such node", "2:;1-0")
        self.assert_graph_problem(6, "an edge ascends", "2:;0-0")
        self.assert_graph_problem(6, "there is no such node", "2:;0-1")
        self.assert_graph_problem(7, "there is no such node", "2:,;0-2")
        self.assert_graph_problem(7, "an edge ascends", "2:,;1-0")
        self.assert_graph_problem(7, "an edge ascends", "2:,;1-1")
        self.assert_graph_problem(11, "edges ascend", "2:,;0-1,0-1")
        self.assert_graph_problem(12, "edges ascend", "2:,,;0-2,0-1")
        self.assert_graph_problem(12, "edges ascend", "2:,,;1-2,0-2")
        # An edge that does not ascend is told ahead of edges that do not, and no node ahead of both.
        self.assert_graph_problem(12, "an edge ascends", "2:,,;0-2,1-0")
        self.assert_graph_problem(12, "an edge ascends", "2:,,;1-2,0-0")
        self.assert_graph_problem(12, "there is no such node", "2:,,;1-2,0-3")
        self.assert_graph_problem(10, "there is no such node", "2:,,;1-2,3-0")
        self.assert_same((2, ((),) * 3, ((0, 1), (0, 2), (1, 2))), read_graph("2:,,;0-1,0-2,1-2"))

    def test_two_problems(self):
        self.assert_graph_problem(6, "variables ascend", "2: 1 0, 6; 0-0")
        self.assert_graph_problem(14, "no token begins here", "2: 1 0, 6; 0-?")
        self.assert_graph_problem(14, 'expected "-"', "2: 1 0, 6; 0 0")
        self.assert_graph_problem(9, "expected a number", "9:; 0-1,")
        self.assert_graph_problem(3, "a number has at most 6 digits", "9 1234567")

    def test_no_graph(self):
        for text, column, words in (("", 1, "a number"), ("   ", 4, "a number"), ("2", 2, '":"'),
                                    ("2:", 3, 'a number, "," or ";"'), ("2: 0 ", 6, 'a number, "," or ";"'),
                                    ("2:; 0", 6, '"-"'), ("2:; 0-", 7, "a number"), ("2:;0-1 0", 8, '"," or the end'),
                                    (" " * 2000, 2001, "a number"), ("2:;;", 4, "a number or the end")):
            self.assert_graph_problem(column, "expected " + words, text)

    def test_by_the_words_of_the_document(self):
        """Changed texts of graphs: what is read, or the problem that is reported. Also point 115."""
        numbers = Numbers(112)
        seen = {}
        for _ in range(2500):
            graph = sample_graph(numbers)
            pieces = pieces_of(graph_text(graph))
            self.assert_same(graph, read_graph(spaced(numbers, pieces)))
            text = spaced(numbers, changed(numbers, pieces))
            right = plain_problem("graph", text)
            if right is None:
                told = read_graph(text)
                self.assertTrue(is_graph(told))
                self.assert_same([int(piece) for piece in pieces_of(text) if piece.isdigit()],
                                 [int(piece) for piece in pieces_of(graph_text(told)) if piece.isdigit()])
            else:
                self.assert_problem(*right, read_graph, text)
                seen[right[1]] = seen.get(right[1], 0) + 1
        for words in ("there are 2 or 3 values", "a scope has at most 3 variables", "a variable is from 0 to 5",
                      "variables ascend", "there are at most 5 nodes", "there is no such node", "an edge ascends",
                      "edges ascend", "no token begins here", "a number has at most 6 digits"):
            self.assertLess(2, seen.get(words, 0), words)

    def test_wrong_arguments(self):
        self.assert_refuses(read_graph, ("2:;",), [("text", WRONG_TEXTS)])


class ReadTablesTest(TextCase):
    def assert_table_problem(self, column, words, graph, text):
        self.assertEqual((column, words), plain_problem("tables", text, graph))
        self.assert_problem(column, words, read_tables, graph, text)

    def test_example(self):
        right = ((((0, 0), 2), ((1, 1), 5)), (((1,), 1),))
        self.assert_same(right, self.assert_leaves_arguments(read_tables, PAIR, "0 0 = 2, 1 1 = 5; 1 = 1"))
        self.assert_same(((), ()), read_tables(PAIR, ";"))

    def test_tables(self):
        single, bare = (3, ((4,),), ()), (2, ((),), ())
        for graph, text, right in (
                (single, "", ((),)), (single, "   ", ((),)), (single, "2=0", ((((2,), 0),),)),
                (single, "0=1,1=2,2=3", ((((0,), 1), ((1,), 2), ((2,), 3)),)), (bare, "", ((),)),
                (bare, "=100", ((((), 100),),)), (BARE, "=0;", ((((), 0),), ())), (BARE, ";=7", ((), (((), 7),))),
                (BARE, "=1;=2", ((((), 1),), (((), 2),))), (LARGE, ";;;;", ((),) * 5),
                (LARGE, "0 0 0=0;;;;2 2=100", ((((0, 0, 0), 0),), (), (), (), (((2, 2), 100),)))):
            self.assert_same(right, read_tables(graph, text))
            self.assert_same(right, read_tables(graph, "  " + " ".join(pieces_of(text)) + "  "))

    def test_zeros_ahead(self):
        self.assert_same(((((0, 1), 7),), (((1,), 100),)), read_tables(PAIR, "00 01 = 007; 000001 = 000100"))
        self.assert_problem(5, "a number has at most 6 digits", read_tables, PAIR, "0 1=0000007;")
        self.assert_table_problem(11, "rows ascend", (2, ((0,),), ()), "1 = 0, 01 = 0")

    def test_values(self):
        self.assert_table_problem(5, "there is no such variable", PAIR, "0 0 0 = 2;")
        self.assert_table_problem(5, "there is no such variable", PAIR, "0 0 9 = 2;")
        self.assert_table_problem(1, "there is no such variable", BARE, "0 = 2;")
        self.assert_table_problem(3, "there is no such variable", (2, ((0,), ()), ()), "; 5 = 2")
        self.assert_table_problem(3, "there is no such value", PAIR, "0 2 = 2;")
        self.assert_table_problem(1, "there is no such value", PAIR, "2 2 2 = 2;")
        self.assert_same(((((2,), 0),),), read_tables((3, ((0,),), ()), "2=0"))
        self.assert_table_problem(1, "there is no such value", (3, ((0,),), ()), "3=0")

    def test_rows(self):
        self.assert_table_problem(3, "a value is missing", PAIR, "0 = 2;")
        self.assert_table_problem(1, "a value is missing", PAIR, "= 200;")
        self.assert_table_problem(12, "rows ascend", PAIR, "0 0 = 2,0 0= 2;")
        self.assert_table_problem(12, "rows ascend", PAIR, "1 0 = 2,0 1= 2;")
        # That a value is missing is told ahead of the sequence of the rows.
        self.assert_table_problem(10, "a value is missing", PAIR, "1 0 = 2,0= 2;")
        self.assert_table_problem(5, "rows ascend", (2, ((),), ()), "= 2,=2")
        self.assert_table_problem(2, "a value is missing", (2, ((0, 1, 2),), ()), "1=101")
        self.assert_same(((((1,), 0),), (((0,), 0),)), read_tables((2, ((0,), (0,)), ()), "1=0;0=0"))

    def test_costs(self):
        for cost in ("101", "999999", "1000", "000101"):
            self.assert_table_problem(7, "a cost is from 0 to 100", PAIR, "0 0 = " + cost + ";")
            self.assert_table_problem(7, "a cost is from 0 to 100", PAIR, "0 0 = " + cost + "; = 101")
        for cost in (0, 1, 99, 100):
            self.assert_same(((((0, 0), cost),), ()), read_tables(PAIR, "0 0 = {};".format(cost)))

    def test_how_many_tables(self):
        self.assert_table_problem(1, "a table is missing", PAIR, "")
        self.assert_table_problem(4, "a table is missing", PAIR, "   ")
        self.assert_table_problem(8, "a table is missing", PAIR, "0 0 = 2")
        self.assert_table_problem(5, "a table is missing", LARGE, ";;; ")
        self.assert_table_problem(2, "there is no such node", PAIR, ";;")
        self.assert_table_problem(1, "there is no such node", (2, ((),), ()), ";9=999;;;")
        self.assert_table_problem(5, "there is no such node", LARGE, ";;;;;")
        self.assert_table_problem(3, "there is no such value", PAIR, "; 7=0;;")

    def test_two_problems(self):
        self.assert_table_problem(1, "there is no such value", PAIR, "2 = 101, 0 0 0 = 3")
        self.assert_table_problem(9, "no token begins here", PAIR, "2 = 101 ?")
        self.assert_table_problem(9, 'expected ",", ";" or the end', PAIR, "2 = 101 0")
        self.assert_table_problem(5, "a cost is from 0 to 100", (2, ((0,),), ()), "0 = 101; ;")

    def test_no_tables(self):
        for text, column, words in (("0", 2, 'a number or "="'), ("=", 2, "a number"), ("= 1,", 5, 'a number or "="'),
                                    ("=1 1", 4, '",", ";" or the end'), (";;;0 ", 6, 'a number or "="'),
                                    ("= ;", 3, "a number"), ("0-1", 2, 'a number or "="')):
            self.assert_table_problem(column, "expected " + words, PAIR, text)

    def test_by_the_words_of_the_document(self):
        """Changed texts of tables: what is read, or the problem that is reported. Also point 115."""
        numbers = Numbers(113)
        seen = {}
        for _ in range(2500):
            graph = sample_graph(numbers)
            tables = tuple(table[:numbers.below(4)] for table in sample_tables(numbers, graph))
            pieces = pieces_of(tables_text(graph, tables))
            self.assert_same(tables, read_tables(graph, spaced(numbers, pieces)))
            text = spaced(numbers, changed(numbers, pieces))
            right = plain_problem("tables", text, graph)
            if right is None:
                told = read_tables(graph, text)
                self.assertTrue(are_tables(graph, told))
                self.assert_same([int(piece) for piece in pieces_of(text) if piece.isdigit()],
                                 [int(piece) for piece in pieces_of(tables_text(graph, told)) if piece.isdigit()])
            else:
                self.assert_problem(*right, read_tables, graph, text)
                seen[right[1]] = seen.get(right[1], 0) + 1
        for words in ("there is no such variable", "there is no such value", "a value is missing", "rows ascend",
                      "a cost is from 0 to 100", "there is no such node", "a table is missing", "no token begins here",
                      "a number has at most 6 digits"):
            self.assertLess(4, seen.get(words, 0), words)

    def test_wrong_arguments(self):
        self.assert_refuses(read_tables, (PAIR, ";"), [("graph", WRONG_GRAPHS), ("text", WRONG_TEXTS)])


class ExampleTest(Case):
    def test_point_117(self):
        graph = read_graph("2: 0 1, 1; 0-1")
        self.assert_same(PAIR, graph)
        self.assert_same(((((0, 0), 2), ((1, 1), 5)), (((1,), 1),)), read_tables(graph, "0 0 = 2, 1 1 = 5; 1 = 1"))
