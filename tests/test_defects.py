"""Points 1 to 8, 31 to 34, 38 and 39: defects, good orders and their judges."""

import itertools

from tabletalk.defects import accepts_defect, accepts_order, defect, good_order
from tabletalk.graphs import is_junction_tree
from tests.support import (BARE, GRAPH, LARGE, STRANGE, WRONG_GRAPHS, Case, is_edge_of, many_graphs, plain_cycles,
                           plain_hang_together, plain_is_junction_tree, plain_nodes_with, plain_reached, plain_shared)

ROW = (2, ((0, 1), (1, 2), (0, 2)), ((0, 1), (1, 2)))
RING = (2, ((0, 1), (1, 2), (0, 2)), ((0, 1), (0, 2), (1, 2)))
STAR = (2, ((0, 1), (0,), (1, 2), ()), ((0, 1), (0, 2), (2, 3)))
PAIRS = (2, ((0,), (0, 1), (1,), (1,)), ((0, 1), (2, 3)))
FULL = (2, ((),) * 5, tuple(itertools.combinations(range(5), 2)))
WORDS = ["cycle", "apart", "split", "", "Cycle", "cycles", b"cycle", None, True, 0, [], ("cycle",), ["split"]]
# Anything at all that is neither a defect nor a good order of any graph.
WRONG_VALUES = STRANGE + [
    0, 1, -1, (), ((),), ((), ()), ((), (), ()), "cycle", "apart", ("cycle",), ("apart",), ("split",), ("split", 0),
    ("split", (0,)), ("cycle", 0), ("apart", 0), ("cycle", None), ("apart", None), ("split", None, None),
    ("split", 0, None), ("cycle", ()), ("apart", ()), ("split", 0, ()), ("split", (), 0), ("cycle", "012"),
    ("apart", "0"), ("split", "0", "0"), {"cycle": (0, 1, 2)}, {0: 1}, ("cycle", {}), ("apart", {0: 0}),
    ("cycle", [0, 1, 2]), ("apart", [0]), ("split", 0, [0]), ["cycle", (0, 1, 2)], ["apart", (0,)], ["split", 0, (0,)],
    ("apart", ((0,),)), ("apart", ([],)), ("split", 0, ([],)), ("split", [], (0,)), ("split", {}, (0,)), 10 ** 30,
    ("cycle", ([], [], [])), ("cycle", (None, None, None)), (-1,), (9,), (0, 0), (0, None), (None, 0), (0, "1")]


def plain_is_part(graph, among, part):
    """What points 31 asks of the part in "apart" and "split", as a tuple of integers."""
    rest = [node for node in among if node not in part]
    return (list(part) == sorted(set(part)) and 1 <= len(part) < len(among) and set(part) <= set(among)
            and not any(is_edge_of(graph, node, other) for node in part for other in rest))


def plain_defects(graph):
    """All defects of the graph, by the words of the document."""
    nodes = range(len(graph[1]))
    parts = [part for many in range(1, len(nodes) + 1) for part in itertools.combinations(nodes, many)]
    return ([("cycle", way) for way in plain_cycles(graph)]
            + [("apart", part) for part in parts if plain_is_part(graph, nodes, part)]
            + [("split", variable, part) for variable in range(6) for part in parts
               if plain_is_part(graph, plain_nodes_with(graph, variable), part)])


def plain_told_defect(graph):
    """Point 34, word by word."""
    nodes = tuple(range(len(graph[1])))
    cycles = [way for way in plain_cycles(graph) if way[0] == min(way) and way[1] < way[-1]]
    if cycles:
        return "cycle", min(cycles, key=lambda way: (len(way), way))
    if not plain_hang_together(graph, nodes):
        return "apart", plain_reached(graph, nodes, 0)
    for variable in range(6):
        among = plain_nodes_with(graph, variable)
        if not plain_hang_together(graph, among):
            return "split", variable, plain_reached(graph, among, among[0])
    return None


def plain_is_order(graph, order):
    """Point 32, word by word, for a tuple that has each node once."""
    for at in range(1, len(order)):
        before = order[:at]
        near = [node for node in before if is_edge_of(graph, node, order[at])]
        if len(near) != 1:
            return False
        for node in before:
            if not set(plain_shared(graph, node, order[at])) <= set(graph[1][near[0]]):
                return False
    return True


def plain_told_order(graph):
    order = [0]
    while len(order) < len(graph[1]):
        order.append(min(node for node in range(len(graph[1])) if node not in order
                         and any(is_edge_of(graph, node, before) for before in order)))
    return tuple(order)


class DefectTest(Case):
    def test_example(self):
        self.assert_same(("split", 0, (0,)), self.assert_leaves_arguments(defect, ROW))
        self.assert_same(("cycle", (0, 1, 2)), self.assert_leaves_arguments(defect, RING))
        self.assert_same(("apart", (0,)), self.assert_leaves_arguments(defect, (2, ((0,), (0,)), ())))

    def test_none(self):
        row = (2, ((),) * 5, ((0, 4), (1, 4), (2, 3), (2, 4)))
        for graph in (GRAPH, BARE, STAR, row, (2, ((),), ()), (3, ((0, 1, 2),), ())):
            self.assert_same(None, defect(graph))

    def test_the_first_one_of_the_shortest_cycles(self):
        bare = ((),) * 5
        self.assert_same(("cycle", (0, 1, 2)), defect(FULL))
        self.assert_same(("cycle", (0, 1, 2)), defect(LARGE))
        self.assert_same(("cycle", (2, 3, 4)), defect((2, bare, ((0, 1), (2, 3), (2, 4), (3, 4)))))
        square = (2, bare, ((0, 1), (0, 2), (1, 3), (2, 3)))
        self.assert_same(("cycle", (0, 1, 3, 2)), defect(square))
        self.assert_same(("cycle", (0, 2, 1, 3)), defect((2, bare, ((0, 2), (0, 3), (1, 2), (1, 3)))))
        five = (2, bare, ((0, 1), (0, 4), (1, 2), (2, 3), (3, 4)))
        self.assert_same(("cycle", (0, 1, 2, 3, 4)), defect(five))
        # A triangle of later nodes comes before a square of earlier ones, as it has fewer nodes.
        both = (2, bare, ((0, 1), (0, 3), (1, 2), (2, 3), (2, 4), (3, 4)))
        self.assert_same(("cycle", (2, 3, 4)), defect(both))

    def test_the_nodes_of_the_first_one(self):
        bare = ((),) * 5
        self.assert_same(("apart", (0, 3, 4)), defect((2, bare, ((0, 4), (1, 2), (3, 4)))))
        self.assert_same(("apart", (0,)), defect((2, ((0,),) * 5, ())))
        self.assert_same(("apart", (0, 1)), defect(PAIRS))
        self.assert_same(("apart", (0, 1, 2, 3)), defect((2, bare, ((0, 1), (1, 2), (2, 3)))))

    def test_the_least_variable(self):
        row = ((0, 1), (1, 2), (2, 3), (3, 4))
        self.assert_same(("split", 4, (1, 2)), defect((2, ((5,), (4,), (4,), (5,), (4,)), row)))
        self.assert_same(("split", 5, (0,)), defect((2, ((5,), (), (5,), (5,), (3,)), row)))
        late = ((0, 2), (1, 2), (1, 3), (3, 4))
        self.assert_same(("split", 2, (0, 2)), defect((2, ((2,), (), (2,), (), (2,)), late)))

    def test_a_cycle_comes_first_and_then_what_hangs_apart(self):
        scopes = ((0,), (1,), (1,), (1,), (0,))
        self.assert_same(("cycle", (1, 2, 3)), defect((2, scopes, ((1, 2), (1, 3), (2, 3)))))
        self.assert_same(("apart", (0,)), defect((2, scopes, ((1, 2), (2, 3), (3, 4)))))
        self.assert_same(("split", 0, (0,)), defect((2, scopes, ((0, 1), (1, 2), (2, 3), (3, 4)))))

    def test_by_the_words_of_the_document(self):
        words = {}
        for graph in many_graphs():
            told = defect(graph)
            self.assert_same(plain_told_defect(graph), told)
            self.assertIs(told is None, is_junction_tree(graph))
            self.assertTrue(told is None or accepts_defect(graph, told), graph)
            word = told and told[0]
            words[word] = words.get(word, 0) + 1
        self.assertEqual({"cycle", "apart", "split", None}, set(words))
        self.assertLess(30, min(words.values()))

    def test_wrong_arguments(self):
        self.assert_refuses(defect, (GRAPH,), [("graph", WRONG_GRAPHS)])


class AcceptsDefectTest(Case):
    def refuses(self, graph, value):
        told = repr(value)
        self.assertIs(False, accepts_defect(graph, value), (graph, value))
        self.assertEqual(told, repr(value))

    def test_example(self):
        self.assertIs(True, self.assert_leaves_arguments(accepts_defect, ROW, ("split", 0, (2,))))
        self.assertIs(True, accepts_defect(ROW, ("split", 0, (0,))))
        self.refuses(ROW, ("split", 1, (0,)))

    def test_cycles(self):
        for way in itertools.permutations((0, 1, 2)):
            self.assertIs(True, accepts_defect(RING, ("cycle", way)))
        for way in itertools.permutations(range(5)):
            self.assertIs(True, accepts_defect(FULL, ("cycle", way)))
        square = (2, ((),) * 4, ((0, 1), (0, 3), (1, 2), (2, 3)))
        self.assertIs(True, accepts_defect(square, ("cycle", (2, 1, 0, 3))))
        for way in ((0, 1), (0, 1, 2), (0, 2, 1, 3), (0, 1, 2, 3, 0), (0, 1, 0, 1), (0, 1, 2, 1), (1, 1, 1), (0,), ()):
            self.refuses(square, ("cycle", way))
        # Each node is a neighbour of the next one, but the last one is none of the first one, or the other way round.
        self.refuses(ROW, ("cycle", (0, 1, 2)))
        self.refuses(ROW, ("cycle", (0, 2, 1)))
        self.refuses(ROW, ("cycle", (1, 0, 2)))

    def test_apart(self):
        for part in ((0, 1), (2, 3)):
            self.assertIs(True, accepts_defect(PAIRS, ("apart", part)))
        for part in ((), (0,), (1,), (0, 2), (1, 0), (0, 0, 1), (0, 1, 2), (0, 1, 2, 3), (0, 1, 4), (3, 2), (4,),
                     (-1,), (-2, -1)):
            self.refuses(PAIRS, ("apart", part))
        bare = (2, ((),) * 5, ())
        for many in range(6):
            for part in itertools.combinations(range(5), many):
                self.assertIs(0 < many < 5, accepts_defect(bare, ("apart", part)), part)
        self.refuses((2, ((),), ()), ("apart", (0,)))

    def test_split(self):
        row = (2, ((5,), (5,), (), (5,), (1, 5)), ((0, 1), (1, 2), (2, 3), (3, 4)))
        for part in ((0, 1), (3, 4)):
            self.assertIs(True, accepts_defect(row, ("split", 5, part)))
        for part in ((), (0,), (3,), (2,), (0, 1, 2), (2, 3, 4), (0, 1, 3, 4), (1, 0), (0, 0, 1), (0, 3), (5,), (-1,)):
            self.refuses(row, ("split", 5, part))
        for variable in (0, 1, 2, 3, 4, 6, -1, True, None, "5", 5.0, (5,), [5]):
            for part in ((0, 1), (3, 4), (4,), ()):
                self.refuses(row, ("split", variable, part))

    def test_a_variable_that_looks_like_one(self):
        row = (2, ((0, 1), (), (0, 1)), ((0, 1), (1, 2)))
        for variable in (0, 1):
            self.assertIs(True, accepts_defect(row, ("split", variable, (0,))))
            for same in (bool(variable), float(variable), str(variable)):
                self.refuses(row, ("split", same, (0,)))

    def test_nodes_that_look_like_some(self):
        self.refuses(RING, ("cycle", (False, True, 2)))
        self.refuses(RING, ("cycle", (0, True, 2)))
        self.refuses(RING, ("cycle", (0, 1, 2.0)))
        self.refuses(RING, ("cycle", [0, 1, 2]))
        self.refuses((2, ((), ()), ()), ("apart", (True,)))
        self.refuses((2, ((), ()), ()), ("apart", (False,)))
        self.refuses((2, ((0,), (0,)), ()), ("split", 0, (True,)))
        self.refuses((2, ((0,), (0,)), ()), ("split", 0, (0.0,)))

    def test_words(self):
        for word in WORDS:
            self.assertIs(word == "cycle", accepts_defect(RING, (word, (0, 1, 2))), word)
            self.assertIs(word == "apart", accepts_defect(PAIRS, (word, (0, 1))), word)
            self.assertIs(word == "split", accepts_defect(ROW, (word, 0, (0,))), word)
        for value in (("cycle", (0, 1, 2), ()), ("cycle", 0, (0, 1, 2)), ("split", (0,)), ("apart", 0, (0,)),
                      ("split", 0, (0,), (0,)), ("split", 0, (0,), 0), ("cycle", (0, 1, 2), 0, 0)):
            self.refuses(RING, value)
            self.refuses(ROW, value)
        for value in (("apart", (0, 1), (0, 1)), ("apart", 0, (0, 1)), ("split", 0, (0, 1), 0)):
            self.refuses(PAIRS, value)
        self.refuses(ROW, ["split", 0, (0,)])
        self.refuses(PAIRS, ["apart", (0, 1)])

    def test_any_value_at_all(self):
        for graph in (GRAPH, BARE, (2, ((),), ()), STAR):
            for value in WRONG_VALUES + [("cycle", (0, 1, 2)), ("apart", (0,)), ("split", 0, (0,))]:
                self.refuses(graph, value)
        for graph in (RING, PAIRS, ROW, LARGE):
            for value in WRONG_VALUES:
                self.refuses(graph, value)

    def test_all_values_of_three_nodes(self):
        names = range(-1, 4)
        tuples = [nodes for many in range(5) for nodes in itertools.product(names, repeat=many)]
        for scopes in (((0,), (0,), (0,)), ((0,), (0, 1), (1,)), ((0,), (1,), (0, 1)), ((), (), ())):
            for edges in ((), ((0, 1),), ((0, 2),), ((0, 1), (1, 2)), ((0, 1), (0, 2), (1, 2))):
                graph = (2, scopes, edges)
                right = plain_defects(graph)
                values = [(word, nodes) for word in ("cycle", "apart", "split") for nodes in tuples]
                values += [("split", variable, nodes) for variable in range(-1, 3) for nodes in tuples]
                self.assertEqual(sorted(right), sorted(value for value in values if accepts_defect(graph, value)))

    def test_by_the_words_of_the_document(self):
        for graph in list(many_graphs())[::4]:
            nodes = range(len(graph[1]))
            tuples = [part for many in range(1, 6) for part in itertools.combinations(nodes, many)]
            values = [("cycle", way) for way in tuples] + [("cycle", way) for way in itertools.permutations(nodes)]
            values += [("apart", part) for part in tuples]
            values += [("split", variable, part) for variable in range(4) for part in tuples]
            right = plain_defects(graph)
            for value in values:
                self.assertIs(value in right, accepts_defect(graph, value), (graph, value))
            for value in right:
                self.assertIs(True, accepts_defect(graph, value), (graph, value))

    def test_wrong_arguments(self):
        for value in (("split", 0, (0,)), ("apart", (0,)), None, 0):
            self.assert_refuses(lambda graph: accepts_defect(graph, value), (GRAPH,), [("graph", WRONG_GRAPHS)])


class GoodOrderTest(Case):
    def test_example(self):
        self.assert_same((0, 1, 2, 3), self.assert_leaves_arguments(good_order, STAR))

    def test_the_least_neighbour_goes_on(self):
        self.assert_same((0,), good_order((2, ((),), ())))
        self.assert_same((0, 1), good_order(BARE))
        self.assert_same((0, 3, 1, 2), good_order((2, ((),) * 4, ((0, 3), (1, 2), (1, 3)))))
        self.assert_same((0, 4, 1, 2, 3), good_order((3, ((1,),) * 5, ((0, 4), (1, 4), (2, 4), (3, 4)))))
        self.assert_same((0, 2, 3, 1, 4), good_order((2, ((),) * 5, ((0, 2), (1, 3), (2, 3), (2, 4)))))

    def test_none(self):
        for graph in (ROW, RING, PAIRS, FULL, LARGE, (2, ((), ()), ()), (2, ((0,), (), (0,)), ((0, 1), (1, 2)))):
            self.assert_same(None, self.assert_leaves_arguments(good_order, graph))

    def test_by_the_words_of_the_document(self):
        for graph in many_graphs():
            told = good_order(graph)
            self.assert_same(plain_told_order(graph) if plain_is_junction_tree(graph) else None, told)
            self.assertTrue(told is None or accepts_order(graph, told), graph)

    def test_wrong_arguments(self):
        self.assert_refuses(good_order, (GRAPH,), [("graph", WRONG_GRAPHS)])


class AcceptsOrderTest(Case):
    def refuses(self, graph, value):
        told = repr(value)
        self.assertIs(False, accepts_order(graph, value), (graph, value))
        self.assertEqual(told, repr(value))

    def test_example(self):
        self.assertIs(True, self.assert_leaves_arguments(accepts_order, STAR, (3, 2, 0, 1)))
        self.refuses(STAR, (3, 0, 2, 1))

    def test_each_node_once(self):
        self.assertIs(True, accepts_order((2, ((),), ()), (0,)))
        self.assertIs(True, accepts_order((2, ((3, 4, 5),), ()), (0,)))
        for order in ((), (1,), (-1,), (0, 0), (0, 1), (False,), (0.0,)):
            self.refuses((2, ((),), ()), order)
        for order in ((), (0,), (0, 1), (0, 1, 2, 3), (0, 1, 1), (0, 1, 2, 2), (0, 1, 3), (-1, 0, 1), (0, True, 2),
                      (False, 1, 2), (0, 1, 2.0), [0, 1, 2], (0, 1, None), ((0,), 1, 2), ((0, 1, 2),), "012"):
            self.refuses(GRAPH, order)
        for order in ((0, 1, 2), (1, 0, 2), (1, 2, 0), (2, 1, 0)):
            self.assertIs(True, accepts_order(GRAPH, order))

    def test_exactly_one_neighbour_before(self):
        self.refuses(GRAPH, (0, 2, 1))
        self.refuses(GRAPH, (2, 0, 1))
        for graph in (RING, FULL, (2, ((), ()), ())):
            for order in itertools.permutations(range(len(graph[1]))):
                self.refuses(graph, order)

    def test_shared_with_some_node_before(self):
        for order in itertools.permutations(range(3)):
            self.refuses(ROW, order)
        split = (2, ((0,), (), (0,), (0,)), ((0, 1), (1, 2), (2, 3)))
        for order in itertools.permutations(range(4)):
            self.refuses(split, order)
        # The variable 0 is not shared with the neighbour before, but with the node before that one.
        self.refuses((2, ((0,), (1,), (0, 1)), ((0, 1), (1, 2))), (0, 1, 2))
        self.assertIs(True, accepts_order((2, ((0,), (0, 1), (0, 1)), ((0, 1), (1, 2))), (0, 1, 2)))

    def test_any_value_at_all(self):
        for graph in (GRAPH, BARE, (2, ((),), ()), STAR, RING, LARGE):
            for value in WRONG_VALUES:
                self.refuses(graph, value)

    def test_all_values_of_three_nodes(self):
        tuples = [nodes for many in range(5) for nodes in itertools.product(range(-1, 4), repeat=many)]
        for scopes in (((0,), (0,), (0,)), ((0,), (0, 1), (1,)), ((0,), (1,), (0, 1)), ((), (), ())):
            for edges in ((), ((0, 1),), ((0, 1), (1, 2)), ((0, 2), (1, 2)), ((0, 1), (0, 2), (1, 2))):
                graph = (2, scopes, edges)
                right = [order for order in itertools.permutations(range(3)) if plain_is_order(graph, order)]
                self.assertEqual(right, [order for order in tuples if accepts_order(graph, order)])

    def test_by_the_words_of_the_document(self):
        """Points 32 and 33: either a defect or a good order, and one from whatever node on."""
        for graph in list(many_graphs())[::3]:
            nodes = range(len(graph[1]))
            right = [order for order in itertools.permutations(nodes) if plain_is_order(graph, order)]
            for order in itertools.permutations(nodes):
                self.assertIs(order in right, accepts_order(graph, order), (graph, order))
            self.assertEqual(sorted({order[0] for order in right}), list(nodes) if is_junction_tree(graph) else [])
            self.assertIs(bool(right), not plain_defects(graph), graph)

    def test_wrong_arguments(self):
        for value in ((0, 1, 2), (0,), None, 0):
            self.assert_refuses(lambda graph: accepts_order(graph, value), (GRAPH,), [("graph", WRONG_GRAPHS)])


class ExampleTest(Case):
    def test_point_39(self):
        scopes = RING[1]
        for edges in itertools.combinations(RING[2], 2):
            ends = [node for node in range(3) if len([edge for edge in edges if node in edge]) == 1]
            shared = plain_shared((2, scopes, edges), *ends)
            self.assert_same(("split", shared[0], (ends[0],)), defect((2, scopes, edges)))
        self.assertEqual("cycle", defect(RING)[0])
        for number in range(4):
            for edges in itertools.combinations(RING[2], number):
                self.assertIs(False, is_junction_tree((2, scopes, edges)))

    def test_interface(self):
        told = (defect(ROW), defect(RING), defect((2, ((0,), (0,)), ())))
        self.assert_same((("split", 0, (0,)), ("cycle", (0, 1, 2)), ("apart", (0,))), told)
        told = accepts_defect(ROW, ("split", 0, (2,))), accepts_defect(ROW, ("split", 1, (0,)))
        self.assert_same((True, False), told)
        told = good_order(STAR), accepts_order(STAR, (3, 2, 0, 1)), accepts_order(STAR, (3, 0, 2, 1))
        self.assert_same(((0, 1, 2, 3), True, False), told)
