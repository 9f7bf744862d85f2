"""Texts of graphs and of tables: what can come in them, and reading them."""

from tabletalk.checks import is_word, require
from tabletalk.errors import TextError
from tabletalk.scanning import check_text, tokens_of
from tabletalk.solutions import MOST_NODES, is_graph
from tabletalk.tables import MOST_IN_SCOPE, MOST_TABLE_COST, MOST_VARIABLE, is_number_of_values

# For each place of both grammars what can come there, in the order in which it is told, with the place behind it.
# The places at which the texts begin are called like the kinds of the texts; behind the end there is nothing.
STEPS = {
    "graph": (("number", "values"),),
    "values": ((":", "scope"),),
    "scope": (("number", "scope"), (",", "scope"), (";", "edges")),
    "edges": (("number", "node"), ("end", "nothing")),
    "node": (("-", "dash"),),
    "dash": (("number", "edge"),),
    "edge": ((",", "comma"), ("end", "nothing")),
    "comma": (("number", "node"),),
    "tables": (("number", "row"), (";", "tables"), ("=", "equals"), ("end", "nothing")),
    "row": (("number", "row"), ("=", "equals")),
    "equals": (("number", "cost"),),
    "cost": ((",", "row"), (";", "tables"), ("end", "nothing")),
}


def next_tokens(text, kind):
    """The list of what can come behind the tokens of the text, as it is told, if they begin a text of this kind."""
    check_text(text)
    require(is_word(kind, ("graph", "tables")), "kind")
    return coming(place_behind(tokens_of(text)[:-1], kind))


def read_graph(text):
    """The graph of which this is the text."""
    check_text(text)
    return graph_of_tokens(grammatical(text, "graph"))


def read_tables(graph, text):
    """The tables of the graph of which this is the text."""
    require(is_graph(graph), "graph")
    check_text(text)
    return tables_of_tokens(graph, grammatical(text, "tables"))


def grammatical(text, kind):
    """The tokens of the text, if they follow the grammar of this kind."""
    tokens = tokens_of(text)
    place_behind(tokens, kind)
    return tokens


def place_behind(tokens, kind):
    """The place behind tokens with which a text of this kind begins."""
    place = kind
    for token in tokens:
        behind = [after for what, after in STEPS[place] if what == told_apart(token)]
        demand(behind, token, "expected " + listed(coming(place)))
        place = behind[0]
    return place


def told_apart(token):
    """What tells a token apart from others that cannot come in its place: the sign, or else the kind."""
    return token[1] if token[0] == "sign" else token[0]


def coming(place):
    """The list of what can come at the place, as it is told."""
    return [words_for(what) for what, _ in STEPS[place]]


def words_for(what):
    """How a token is told in what can come."""
    if what == "number":
        return "a number"
    return "the end" if what == "end" else "\"" + what + "\""


def listed(words):
    """The words with commas and "or" between them."""
    if len(words) == 1:
        return words[0]
    return ", ".join(words[:-1]) + " or " + words[-1]


def demand(holds, token, words):
    """Raises TextError with the column of the token unless what is demanded there holds."""
    if not holds:
        raise TextError(token[2], words)


def parted(tokens, ends):
    """The tokens in parts, each with the token behind it, which is one of the ends, as the last one is."""
    found = []
    inner = []
    for token in tokens:
        if told_apart(token) in ends:
            found.append((inner, token))
            inner = []
        else:
            inner = inner + [token]
    return found


def graph_of_tokens(tokens):
    """The graph that the tokens of a grammatical text tell."""
    (head, semicolon), (tail, end) = parted(tokens, (";", "end"))
    values = int(head[0][1])
    demand(is_number_of_values(values), head[0], "there are 2 or 3 values")
    scopes = scopes_of_tokens(parted(head[2:] + [semicolon], (",", ";")))
    return values, scopes, edges_of_tokens(parted(tail + [end], (",", "end")), len(scopes))


def scopes_of_tokens(parts):
    """The scopes, each told by the numbers of a part."""
    scopes = ()
    for tokens, behind in parts:
        scope = ()
        for token in tokens:
            scope = scope + (variable_of_token(token, scope),)
        scopes = scopes + (scope,)
        demand(len(scopes) < MOST_NODES or behind[1] == ";", behind, "there are at most 5 nodes")
    return scopes


def variable_of_token(token, scope):
    """The variable that a number behind those of the scope tells."""
    variable = int(token[1])
    demand(len(scope) < MOST_IN_SCOPE, token, "a scope has at most 3 variables")
    demand(variable <= MOST_VARIABLE, token, "a variable is from 0 to 5")
    demand(scope == () or variable > scope[-1], token, "variables ascend")
    return variable


def edges_of_tokens(parts, nodes):
    """The edges between so many nodes, each told by a part."""
    edges = ()
    # Without edges there is one part, in which nothing stands.
    for tokens in [inner for inner, _ in parts if inner]:
        first, second = tokens[0], tokens[2]
        one = node_of_token(first, nodes)
        other = node_of_token(second, nodes)
        demand(one < other, second, "an edge ascends")
        demand(edges == () or (one, other) > edges[-1], second, "edges ascend")
        edges = edges + ((one, other),)
    return edges


def node_of_token(token, nodes):
    """The node, one of so many, that a number tells."""
    demand(int(token[1]) < nodes, token, "there is no such node")
    return int(token[1])


def tables_of_tokens(graph, tokens):
    """The tables of the graph that the tokens of a grammatical text tell."""
    values, scopes, _ = graph
    tables = ()
    for inner, behind in parted(tokens, (";", "end")):
        # Behind as many tables as there are nodes nothing is read, so there is a scope for each table.
        tables = tables + (table_of_tokens(values, scopes[len(tables)], inner + [behind]),)
        demand(len(tables) < len(scopes) or behind[1] != ";", behind, "there is no such node")
        demand(len(tables) == len(scopes) or behind[0] != "end", behind, "a table is missing")
    return tables


def table_of_tokens(values, scope, tokens):
    """The table of the scope that the tokens, with the one behind them, tell."""
    table = ()
    # Without rows there is one part, in which nothing stands.
    for inner in [part for part, _ in parted(tokens, (",", ";", "end")) if part]:
        equals, price = inner[-2], inner[-1]
        row = row_of_tokens(values, scope, inner[:-2])
        demand(len(row) == len(scope), equals, "a value is missing")
        demand(table == () or row > table[-1][0], equals, "rows ascend")
        cost = int(price[1])
        demand(cost <= MOST_TABLE_COST, price, "a cost is from 0 to 100")
        table = table + ((row, cost),)
    return table


def row_of_tokens(values, scope, tokens):
    """The values, at most as many as the scope has variables, that numbers tell."""
    row = ()
    for token in tokens:
        value = int(token[1])
        demand(len(row) < len(scope), token, "there is no such variable")
        demand(value < values, token, "there is no such value")
        row = row + (value,)
    return row
