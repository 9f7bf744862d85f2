"""What the tests share: wrong values, calls that must be refused, and samples."""

import copy
import functools
import itertools
import unittest

from tabletalk.errors import BadValue, NotPossible


class Strange:
    """A value that nothing can be compared with."""

    def __eq__(self, other):
        raise RuntimeError("nothing can be compared with this")

    def __repr__(self):
        return "Strange()"

    __hash__ = None


# Values of the wrong kind for each argument of the program that is a tuple or an integer.
STRANGE = [None, "", "0", b"", 0.0, 2.0, True, False, [], {}, set(), object, (None,), ("0",), ([],), (0.0,), (True,),
           Strange(), (Strange(),), (Strange(), 0), (Strange(), 0, ())]

GRAPH = (2, ((0,), (0, 1), (1,)), ((0, 1), (1, 2)))
TABLES = ((((0,), 1), ((1,), 0)), (((0, 0), 0), ((0, 1), 2), ((1, 1), 5)), (((1,), 0),))
BARE = (2, ((), ()), ((0, 1),))
LARGE = (3, ((0, 1, 2), (1, 2, 3), (2, 3, 4), (3, 4, 5), (0, 5)), tuple(itertools.combinations(range(5), 2)))

WRONG_GRAPHS = STRANGE + [
    0, (), list(GRAPH), GRAPH[:2], GRAPH + ((),), (1, ((0,),), ()), (4, ((0,),), ()), (True, ((0,),), ()),
    (2.0, ((0,),), ()), ("2", ((0,),), ()), (2, (), ()), (2, ((),) * 6, ()), (2, [(0,)], ()), (2, ([0],), ()),
    (2, (0,), ()), (2, ((6,),), ()), (2, ((-1,),), ()), (2, ((1, 0),), ()), (2, ((1, 1),), ()),
    (2, ((0, 1, 2, 3),), ()), (2, ((False,),), ()), (2, ((0,),), None), (2, ((0,),), []), (2, ((0,),), ((0, 0),)),
    (2, ((0,),), ((0, 1),)), (2, ((), ()), ((1, 0),)), (2, ((), ()), ((0, 1), (0, 1))), (2, ((), ()), [(0, 1)]),
    (2, ((), ()), ([0, 1],)), (2, ((), ()), ((0,),)), (2, ((), ()), ((0, 1, 1),)), (2, ((), ()), ((0, True),)),
    (2, ((), ()), ((False, 1),)), (2, ((), ()), ((0, 2),)), (2, ((), ()), ((-1, 1),)), (2, ((), ()), (0, 1)),
    (2, ((), ()), ((0, 1.0),)), (2, ((), (), ()), ((0, 2), (0, 1))), (2, ((), (), ()), ((1, 2), (0, 2))),
    (2, None, ()), (2, "01", ()), (2, ((0,), None), ())]
WRONG_TABLES = STRANGE + [
    0, (), list(TABLES), TABLES[:2], TABLES + ((),), (TABLES[1], TABLES[0], TABLES[2]), ((), (), ()) * 2, ((), (), []),
    ((), (), None), ((), (), (((2,), 0),)), ((), (), (((1,), 101),)), ((), (), (((1,), -1),)),
    ((), (), (((1,), True),)), ((), (), (((True,), 1),)), ((), (), (([1], 1),)), ((), (), ([(1,), 1],)),
    ((), (), (((1, 1), 0),)), ((), (), (((), 0),)), ((), (), (((1,), 0), ((0,), 0))),
    ((), (), (((0,), 0), ((0,), 1))), ((), (), (((1,), 0, 0),)), ((((0,), 1.0),), (), ()),
    ((((0, 0), 1),), (), ()), ((), (((0,), 1),), ())]
# The messages with which all nodes of the example are consistent.
TOLD = ((((0,), 1, 1), ((1,), 1, 0)), (((0,), 1, 2), ((1,), 1, 5)), (((0,), 1, 1), ((1,), 2, 3)), (((1,), 1, 0),))
LESS = ((((0,), 1, 1),),) + TOLD[1:]
NONE = ((),) * 4
WRONG_MESSAGES = STRANGE + [
    0, (), list(TOLD), TOLD[:3], TOLD + ((),), NONE[:2], TOLD[:3] + ([],), TOLD[:3] + (None,), TOLD[:3] + (0,),
    TOLD[:3] + (list(TOLD[3]),), [()] * 4, {}]
WRONG_MESSAGES += [TOLD[:at] + (message,) + TOLD[at + 1:] for at in (0, 3) for message in (
    (((0,), 0, 1),), (((0,), 1000001, 1),), (((0,), 1, -1),), (((0,), 1, 10001),), (((0,), True, 1),),
    (((0,), 1, True),), (((0,), 1, False),), (((True,), 1, 1),), (((2,), 1, 1),), (((-1,), 1, 1),), (((), 1, 1),),
    (((0, 0), 1, 1),), (([0], 1, 1),), ([(0,), 1, 1],), (((0,), 1),), (((0,), 1, 1, 1),), ((0, 1, 1),),
    (((0,), 1.0, 1),), (((0,), 1, "1"),), (((0,), None, 1),), (((1,), 1, 1), ((0,), 1, 1)),
    (((0,), 1, 1), ((0,), 2, 1)), (((0,), 1, 1), ((0,), 1, 1)), ((0,), 1, 1))]
WRONG_NODES = STRANGE + [3, -1, 5, (0,), [0], 1.0, "1"]


def all_rows(values, some):
    return list(itertools.product(range(values), repeat=len(some)))


def all_some(most=6):
    """All ascending tuples of at most so many variables."""
    return [some for many in range(most + 1) for some in itertools.combinations(range(6), many)]


def restricted(some, row, kept):
    """The part of a row, by a dict of its values."""
    worth = dict(zip(some, row))
    return tuple(worth[variable] for variable in kept)


def some_of(some):
    return [kept for many in range(len(some) + 1) for kept in itertools.combinations(some, many)]


def message_of(triples):
    """The message in which rows, each with a count and a cost, are gathered, by the words of the document."""
    gathered = {}
    for row, count, cost in triples:
        gathered.setdefault(row, []).append((count, cost))
    return tuple((row, sum(count for count, _ in pairs), min(cost for _, cost in pairs))
                 for row, pairs in sorted(gathered.items()))


def plain_projection(some, message, kept):
    return message_of((restricted(some, row, kept), count, least) for row, count, least in message)


def plain_solutions(graph, tables):
    """The pairs of the rows and the costs of all solutions, by looking at each full row."""
    some = sorted({variable for scope in graph[1] for variable in scope})
    found = []
    for row in all_rows(graph[0], some):
        parts = [restricted(some, row, scope) for scope in graph[1]]
        if all(part in dict(table) for part, table in zip(parts, tables)):
            found.append((row, sum(dict(table)[part] for part, table in zip(parts, tables))))
    return found


def full_tables(graph, cost):
    return tuple(tuple((row, cost) for row in all_rows(graph[0], scope)) for scope in graph[1])


class Numbers:
    """A fixed sequence of numbers that looks like chance, the same in each run."""

    def __init__(self, seed):
        self.state = seed

    def below(self, many):
        self.state = (self.state * 6364136223846793005 + 1442695040888963407) % 2 ** 64
        return (self.state >> 33) % many

    def among(self, items):
        return items[self.below(len(items))]


def sample_table(numbers, values, scope):
    keep = 1 + numbers.below(5)
    rows = [row for row in all_rows(values, scope) if numbers.below(5) < keep]
    return tuple((row, numbers.below(101)) for row in rows)


def sample_message(numbers, values, some):
    keep = numbers.below(5)
    rows = [row for row in all_rows(values, some) if numbers.below(5) <= keep]
    return tuple((row, 1 + numbers.below(9), numbers.below(50)) for row in rows)


def sample_graph(numbers):
    many = 1 + numbers.below(5)
    scopes = tuple(numbers.among(all_some(3)) for _ in range(many))
    edges = tuple(edge for edge in itertools.combinations(range(many), 2) if numbers.below(2))
    return 2 + numbers.below(2), scopes, edges


def sample_tables(numbers, graph):
    return tuple(sample_table(numbers, graph[0], scope) for scope in graph[1])


def samples(many):
    """Graphs with tables, most of them with solutions."""
    numbers = Numbers(11)
    for _ in range(many):
        graph = sample_graph(numbers)
        yield graph, sample_tables(numbers, graph)


def sample_messages(numbers, graph):
    """Messages of the graph that nobody computed."""
    return tuple(sample_message(numbers, graph[0], plain_shared(graph, one, other))
                 for edge in graph[2] for one, other in (edge, edge[::-1]))


def message_samples(many):
    """Graphs with tables and messages that nobody computed."""
    numbers = Numbers(41)
    for _ in range(many):
        for graph in (sample_graph(numbers), sample_tree(numbers)):
            yield graph, sample_tables(numbers, graph), sample_messages(numbers, graph)


def sample_tree(numbers):
    """A junction tree: each node but the first one has some variables of a node before it, and some that are new."""
    many = 1 + numbers.below(5)
    names = shuffled(numbers, range(6))
    nodes = shuffled(numbers, range(many))
    scopes, edges = {}, []
    for at, node in enumerate(nodes):
        scope = []
        if at:
            before = numbers.among(nodes[:at])
            edges.append((min(node, before), max(node, before)))
            scope = [variable for variable in scopes[before] if numbers.below(3)]
        while names and len(scope) < 3 and numbers.below(2):
            scope.append(names.pop())
        scopes[node] = tuple(sorted(scope))
    return 2 + numbers.below(2), tuple(scopes[node] for node in range(many)), tuple(sorted(edges))


def shuffled(numbers, items):
    left = list(items)
    return [left.pop(numbers.below(len(left))) for _ in range(len(left))]


def all_edges(many):
    """All ascending tuples of edges between so many nodes."""
    pairs = list(itertools.combinations(range(many), 2))
    return [edges for number in range(len(pairs) + 1) for edges in itertools.combinations(pairs, number)]


def many_graphs():
    """Graphs with one to five nodes and all edges that these can have, junction trees among them."""
    numbers = Numbers(21)
    chosen = [some for some in all_some(3) if max(some, default=0) < 3]
    for many, times in ((1, 8), (2, 8), (3, 8), (4, 4), (5, 1)):
        for edges in all_edges(many):
            for _ in range(times):
                yield 2 + numbers.below(2), tuple(numbers.among(chosen) for _ in range(many)), edges
    for edges in all_edges(4):
        yield 2, ((), (), (), ()), edges
    for _ in range(150):
        yield sample_tree(numbers)


def plain_shared(graph, one, other):
    return tuple(sorted(set(graph[1][one]) & set(graph[1][other])))


def is_edge_of(graph, one, other):
    return (one, other) in graph[2] or (other, one) in graph[2]


@functools.lru_cache(maxsize=None)
def plain_ways(graph):
    """All ways of the graph, by looking at all tuples of different nodes."""
    nodes = range(len(graph[1]))
    return [way for many in range(1, len(nodes) + 1) for way in itertools.permutations(nodes, many)
            if all(is_edge_of(graph, one, other) for one, other in zip(way, way[1:]))]


def plain_cycles(graph):
    return [way for way in plain_ways(graph) if len(way) > 2 and is_edge_of(graph, way[-1], way[0])]


def plain_reached(graph, among, node):
    """The nodes to which ways of some nodes alone lead from the node."""
    return tuple(sorted({way[-1] for way in plain_ways(graph) if way[0] == node and set(way) <= set(among)}))


def plain_nodes_with(graph, variable):
    return tuple(node for node, scope in enumerate(graph[1]) if variable in scope)


def plain_hang_together(graph, among):
    return all(plain_reached(graph, among, node) == among for node in among)


@functools.lru_cache(maxsize=None)
def plain_is_junction_tree(graph):
    """Point 30, word by word."""
    return (not plain_cycles(graph) and plain_hang_together(graph, tuple(range(len(graph[1]))))
            and all(plain_hang_together(graph, plain_nodes_with(graph, variable)) for variable in range(6)))


def renumbered(graph, names):
    """The graph with the nodes in another sequence: node k is called names[k]."""
    scopes = tuple(graph[1][names.index(node)] for node in range(len(names)))
    edges = sorted(tuple(sorted((names[one], names[other]))) for one, other in graph[2])
    return graph[0], scopes, tuple(edges)


def renamed(graph, names):
    """The graph with its variables renamed: the variable k is called names[k]."""
    return graph[0], tuple(tuple(sorted(names[variable] for variable in scope)) for scope in graph[1]), graph[2]


def directions(graph):
    return [pair for edge in graph[2] for pair in (edge, edge[::-1])]


def plain_left(graph, tables, messages, node, senders):
    """The rows of the table of the node that these neighbours leave, by the words of the document."""
    sent = dict(zip(directions(graph), messages))
    found = []
    for row, cost in tables[node]:
        told = []
        for sender in senders:
            part = restricted(graph[1][node], row, plain_shared(graph, sender, node))
            told.append({row: (count, least) for row, count, least in sent[sender, node]}.get(part))
        if None not in told:
            count = 1
            for factor, _ in told:
                count *= factor
            found.append((row, count, cost + sum(least for _, least in told)))
    return tuple(found)


def plain_neighbours(graph, node):
    return [other for other in range(len(graph[1])) if is_edge_of(graph, node, other)]


def plain_required(graph, tables, messages, one, other):
    senders = [node for node in plain_neighbours(graph, one) if node != other]
    some = plain_shared(graph, one, other)
    rows = plain_left(graph, tables, messages, one, senders)
    return message_of((restricted(graph[1][one], row, some), count, least) for row, count, least in rows)


def plain_round(graph, tables, messages):
    return tuple(plain_required(graph, tables, messages, *pair) for pair in directions(graph))


def plain_computed(graph, tables):
    """The computed messages, by the words of the document."""
    messages = ((),) * len(directions(graph))
    for _ in graph[1]:
        messages = plain_round(graph, tables, messages)
    return messages


class Case(unittest.TestCase):
    def assert_same(self, one, other):
        """Equal, and of the same kinds throughout: 1 is not True, a list is no tuple."""
        self.assertEqual(repr(one), repr(other))

    def assert_raises_with(self, error, attribute, word, function, *arguments):
        before = copy.deepcopy(arguments)
        with self.assertRaises(error) as caught:
            function(*arguments)
        self.assertIs(error, caught.exception.__class__, arguments)
        self.assertEqual(word, getattr(caught.exception, attribute), arguments)
        self.assert_same(before, arguments)

    def assert_not_possible(self, why, function, *arguments):
        self.assert_raises_with(NotPossible, "why", why, function, *arguments)

    def assert_refuses(self, function, good, wrong):
        """Each wrong value is refused by its name, with right and with wrong values for the arguments behind it.

        `wrong` has for each argument, in order, its name and a list of wrong values, the first of which is put there
        when an earlier argument is the one to be named.
        """
        self.assertEqual(len(good), len(wrong))
        for at, (name, values) in enumerate(wrong):
            wrong_behind = tuple(others[0] for _, others in wrong[at + 1:])
            for value in values:
                for behind in (tuple(good[at + 1:]), wrong_behind):
                    arguments = tuple(good[:at]) + (value,) + behind
                    with self.subTest(name=name, arguments=arguments):
                        self.assert_raises_with(BadValue, "name", name, function, *arguments)

    def assert_leaves_arguments(self, function, *arguments):
        """Two calls return the same, and leave the arguments as they were."""
        before = copy.deepcopy(arguments)
        first = function(*arguments)
        self.assert_same(before, arguments)
        self.assert_same(first, function(*copy.deepcopy(arguments)))
        return first
