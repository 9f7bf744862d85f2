"""Points 1 to 8, 86 to 89, 95 and 96: removals, evidence of either word, and its judge."""

import itertools

from tabletalk.edges import count_making, makes_tree
from tabletalk.removals import accepts_removal, edge_evidence
from tests.support import STRANGE, Case
from tests.test_edges import LARGE, RING, ROW, WRONG_SCOPES, samples

TAIL = RING + ((2, 5),)
# Anything at all that is no evidence about any scopes.
WRONG_VALUES = STRANGE + [
    0, 1, (), ((), ()), ("edges",), ("stuck",), ("edges", None), ("stuck", None), ("edges", 0), ("stuck", 0),
    ("edges", []), ("stuck", []), ["edges", ()], ["stuck", ()], ("edges", (), ()), ("stuck", (), ()), ("", ()),
    (b"edges", ()), ("Edges", ()), ("edge", ()), ((), "edges"), (None, ()), (True, ()), "edges", {"edges": ()},
    ("edges", {}), ("stuck", {}), ("edges", "10"), ("stuck", "10"), ("edges", (0, 1)), ("stuck", (0, 1)),
    ("edges", (None,)),
    ("stuck", (None,)), ("edges", ((),)), ("stuck", ((0,),)), ("edges", ((0, 0),)), ("stuck", ((1, 1),)),
    ("edges", ((9, 0),)), ("stuck", ((0, 9),)), ("edges", ((-1, 0),)), ("edges", ((0, -1),)), ([], []), ({}, {}),
    (("edges",), ()), (["edges"], ()), ("edges", ((0, 1, 2),)), ("stuck", ([0, 1],)), ("edges", ([1, 0],))]


def plain_can_go(scopes, left, node, other):
    """Point 86, word by word."""
    shared = {variable for variable in scopes[node] for each in left if each != node and variable in scopes[each]}
    return node != other and {node, other} <= set(left) and shared <= set(scopes[other])


def plain_removals(scopes):
    """All removals, each with the nodes that remain behind it."""
    found = [((), tuple(range(len(scopes))))]
    for removal, left in found:
        for node, other in itertools.permutations(left, 2):
            if plain_can_go(scopes, left, node, other):
                found.append((removal + ((node, other),), tuple(each for each in left if each != node)))
    return found


def plain_word(scopes, left):
    """The word for which a removal behind which these nodes remain is evidence, or None."""
    if len(left) == 1:
        return "edges"
    stuck = not any(plain_can_go(scopes, left, *pair) for pair in itertools.permutations(left, 2))
    return "stuck" if stuck else None


def plain_told(scopes):
    """Point 89, word by word."""
    removal, left = (), list(range(len(scopes)))
    while True:
        able = [(node, other) for node in left for other in left if plain_can_go(scopes, left, node, other)]
        if not able:
            return plain_word(scopes, left), removal
        removal += (min(able),)
        left.remove(min(able)[0])


class EdgeEvidenceTest(Case):
    def test_example(self):
        self.assert_same(("stuck", ()), self.assert_leaves_arguments(edge_evidence, RING))
        self.assert_same(("edges", ((1, 0), (0, 2))), self.assert_leaves_arguments(edge_evidence, ROW))

    def test_edges(self):
        self.assert_same(("edges", ()), edge_evidence(((),)))
        self.assert_same(("edges", ()), edge_evidence(((0, 1, 5),)))
        self.assert_same(("edges", ((0, 1), (1, 2), (2, 3), (3, 4))), edge_evidence(((),) * 5))
        self.assert_same(("edges", ((0, 1), (1, 2), (2, 3), (3, 4))), edge_evidence(((0, 3, 4),) * 5))
        self.assert_same(("stuck", ((3, 1),)), edge_evidence(TAIL))
        self.assert_same(("stuck", ()), edge_evidence(LARGE))
        # The node 0 can go with another one only when the node 2 is gone.
        self.assert_same(("edges", ((1, 0), (0, 2))), edge_evidence(((0, 1), (0,), (1, 2))))
        self.assert_same(("edges", ((0, 1), (1, 2), (2, 3))), edge_evidence(((0, 1), (1, 2), (2, 3), (3,))))

    def test_by_the_words_of_the_document(self):
        found = {}
        for scopes in samples(12):
            told = edge_evidence(scopes)
            self.assert_same(plain_told(scopes), told)
            self.assertIs(True, accepts_removal(scopes, told))
            self.assertIs(count_making(scopes) > 0, told[0] == "edges", scopes)
            found[told[0]] = found.get(told[0], 0) + 1
        self.assertLess(20, min(found.values()))
        self.assertEqual(2, len(found))

    def test_wrong_arguments(self):
        self.assert_refuses(edge_evidence, (ROW,), [("scopes", WRONG_SCOPES)])


class AcceptsRemovalTest(Case):
    def refuses(self, scopes, value):
        told = repr(value)
        self.assertIs(False, accepts_removal(scopes, value), (scopes, value))
        self.assertEqual(told, repr(value))

    def test_example(self):
        self.assertIs(True, self.assert_leaves_arguments(accepts_removal, ROW, ("edges", ((2, 0), (0, 1)))))
        self.assertIs(True, self.assert_leaves_arguments(accepts_removal, TAIL, ("stuck", ((3, 2),))))

    def test_one_node(self):
        self.assertIs(True, accepts_removal(((0,),), ("edges", ())))
        self.refuses(((0,),), ("stuck", ()))
        self.refuses(((0,),), ("edges", ((0, 0),)))

    def test_only_with_what_has_the_shared_variables(self):
        for removal in (((1, 2), (2, 0)), ((2, 1), (1, 0)), ((0, 1), (1, 2)), ((0, 2), (2, 1)), ((1, 1), (2, 0)),
                        ((1, 0), (1, 0)), ((1, 0), (2, 1)), ((1, 0), (0, 1)), ((2, 0), (0, 2))):
            self.refuses(ROW, ("edges", removal))
        for removal in (((1, 0), (2, 0)), ((2, 0), (1, 0)), ((1, 0), (0, 2)), ((2, 0), (0, 1))):
            self.assertIs(True, accepts_removal(ROW, ("edges", removal)))
            self.refuses(ROW, ("stuck", removal))

    def test_until_no_more_can_go(self):
        for removal in ((), ((1, 0),), ((2, 0),)):
            self.refuses(ROW, ("edges", removal))
            self.refuses(ROW, ("stuck", removal))
        for removal in ((), ((3, 0),), ((0, 3),), ((3, 2), (0, 1)), ((3, 1), (3, 1)), ((1, 3),)):
            self.refuses(TAIL, ("stuck", removal))
            self.refuses(TAIL, ("edges", removal))
        for removal in (((3, 1),), ((3, 2),)):
            self.assertIs(True, accepts_removal(TAIL, ("stuck", removal)))
            self.refuses(TAIL, ("edges", removal))

    def test_nodes_that_look_like_some(self):
        for removal in (((True, 0), (2, 0)), ((1, False), (2, 0)), ((1, 0), (2.0, 0)), ([1, 0], (2, 0)),
                        ((1, 0), (2, "0")), [(1, 0), (2, 0)], ((1, 0, 0), (2, 0)), ((1,), (2, 0)), ((1, 0), (2, 0), ()),
                        ((1, 0), (2, 0), (0, 0)), ((1, 0), None), ((1, 3), (2, 0)), ((1, -3), (2, 0)),
                        ((1, 0), (-1, 0))):
            self.refuses(ROW, ("edges", removal))
            self.refuses(ROW, ("stuck", removal))

    def test_any_value_at_all(self):
        for scopes in (ROW, TAIL, ((0,), (0,)), LARGE + ()):
            for value in WRONG_VALUES:
                if scopes != LARGE or repr(value) != repr(("stuck", ())):
                    self.refuses(scopes, value)
        self.assertIs(True, accepts_removal(LARGE, ("stuck", ())))

    def test_all_removals(self):
        """Points 87 and 88: evidence of exactly one word, and as many nodes remain in the end whatever goes."""
        words = set()
        for scopes in samples(2):
            remaining, accepted = set(), set()
            for removal, left in plain_removals(scopes):
                right = plain_word(scopes, left)
                for word in ("edges", "stuck"):
                    self.assertIs(word == right, accepts_removal(scopes, (word, removal)), (scopes, removal))
                if right is not None:
                    remaining.add(len(left))
                    accepted.add(right)
                if right == "edges":
                    edges = tuple(sorted(tuple(sorted(pair)) for pair in removal))
                    self.assertIs(True, makes_tree(scopes, edges))
            self.assertEqual((1, 1), (len(remaining), len(accepted)), scopes)
            self.assertEqual({"edges" if count_making(scopes) else "stuck"}, accepted)
            words |= accepted
        self.assertEqual({"edges", "stuck"}, words)

    def test_all_values_of_three_nodes(self):
        pairs = list(itertools.product(range(-1, 4), repeat=2))
        for scopes in (ROW, RING, ((0,), (0,), (0,)), ((0, 1), (1, 2), (2,))):
            right = {removal: plain_word(scopes, left) for removal, left in plain_removals(scopes)}
            for many in range(4):
                for removal in itertools.product(pairs[::1 if many < 3 else 4], repeat=many):
                    for word in ("edges", "stuck"):
                        self.assertIs(right.get(removal) == word, accepts_removal(scopes, (word, removal)))

    def test_wrong_arguments(self):
        for value in (("edges", ((1, 0), (2, 0))), None, 0):
            self.assert_refuses(lambda scopes: accepts_removal(scopes, value), (ROW,), [("scopes", WRONG_SCOPES)])


class ExampleTest(Case):
    def test_point_96(self):
        for pair in itertools.permutations(range(3), 2):
            self.refuse_both(RING, (pair,))
        self.assertIs(True, accepts_removal(RING, ("stuck", ())))

    def refuse_both(self, scopes, removal):
        for word in ("edges", "stuck"):
            self.assertIs(False, accepts_removal(scopes, (word, removal)))
