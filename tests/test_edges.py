"""Points 1 to 8, 85 and 90 to 96 as far as tabletalk.edges tells them: sets of edges, shared numbers, additions."""

import itertools

from tabletalk.edges import (accepts_additions, count_making, due_number, first_making, makes_tree, most_shared,
                             shared_number, told_tree)
from tabletalk.graphs import is_junction_tree
from tests.support import (STRANGE, Case, Numbers, all_edges, all_some, plain_cycles, plain_hang_together,
                           plain_is_junction_tree, plain_nodes_with, plain_shared, plain_ways, sample_tree)

RING = ((0, 1), (1, 2), (0, 2))
ROW = ((0, 1), (0,), (1,))
PAIRS = ((0, 1), (0, 2), (1, 2))
LARGE = ((0, 1, 2), (1, 2, 3), (2, 3, 4), (3, 4, 5), (0, 4, 5))
WRONG_SCOPES = STRANGE + [
    0, (), list(ROW), "01", ((),) * 6, (None,), (0,), ([0],), ((6,),), ((-1,),), ((1, 0),), ((1, 1),), ((0, 1, 2, 3),),
    ((False,),), ((0.0,),), (("0",),), ((0,), None), ((0,), 1), ({},), {(): ()}, ((None,),), (((0,),),)]
WRONG_EDGES = STRANGE + [
    0, [], [(0, 1)], (0, 1), ((0, 0),), ((1, 0),), ((0, 3),), ((-1, 0),), ((0, 1), (0, 1)), ((0, 2), (0, 1)), ((0,),),
    ((0, 1, 2),), ([0, 1],), ((0, True),), ((False, 1),), ((0, 1.0),), ((0, None),), (None,), "01", ((1, 2), (0, 2)),
    ((0, 1), [0, 2]), {(0, 1): 0}]
# Anything at all that is no additions for three nodes, whatever the scopes.
WRONG_ADDITIONS = STRANGE + [
    0, 1, [], [(0, 2)], (0, 2), ((0,),), ((0, 2, 0),), ([0, 2],), ((3, 2),), ((-1, 2),), ((0, 6),), ((0, -1),),
    ((True, 0),), ((0, True),), ((False, 2),), ((0, 2.0),), ((0.0, 2),), ((0, None),), ((None, 2),), (("0", 2),),
    (None,), "02", ((0, 2), None), {(0, 2): 0}, {0: 2}, (((0, 2),),), ((0, (2,)),), (((0,), 2),), 10 ** 20, ("02",),
    ((),)]


def graph_of(scopes, edges):
    return 2, scopes, edges


def plain_making(scopes):
    """All sets of edges that make a junction tree, by looking at each set of edges."""
    found = [edges for edges in all_edges(len(scopes)) if plain_is_junction_tree(graph_of(scopes, edges))]
    return sorted(found)


def plain_trees(scopes):
    """All sets of edges that are a tree: no cycle, and all nodes hang together."""
    nodes = tuple(range(len(scopes)))
    bare = ((),) * len(scopes)
    return sorted(edges for edges in all_edges(len(scopes)) if not plain_cycles(graph_of(bare, edges))
                  and plain_hang_together(graph_of(bare, edges), nodes))


def plain_shared_number(scopes, edges):
    return sum(len(plain_shared(graph_of(scopes, edges), *edge)) for edge in edges)


def plain_due_number(scopes):
    having = [len(plain_nodes_with(graph_of(scopes, ()), variable)) for variable in range(6)]
    return sum(many - 1 for many in having if many)


def plain_additions(scopes, edges):
    """Point 91, word by word."""
    bare = graph_of(((),) * len(scopes), edges)
    return tuple((node, variable) for node, scope in enumerate(scopes) for variable in range(6) if variable not in scope
                 and any(node in way and variable in scopes[way[0]] and variable in scopes[way[-1]]
                         for way in plain_ways(bare)))


def with_additions(scopes, pairs):
    return tuple(tuple(sorted(set(scope) | {variable for each, variable in pairs if each == node}))
                 for node, scope in enumerate(scopes))


def fewest_additions(scopes):
    """How few variables can be added to any scopes so that some set of edges makes a junction tree."""
    free = [(node, variable) for node, scope in enumerate(scopes) for variable in range(6) if variable not in scope
            and any(variable in other for other in scopes)]
    for many in range(len(free) + 1):
        for pairs in itertools.combinations(free, many):
            larger = with_additions(scopes, pairs)
            if any(plain_is_junction_tree(graph_of(larger, edges)) for edges in plain_trees(scopes)):
                return many


def sample_scopes(numbers, many, names=6, most=3, least=0):
    chosen = [some for some in all_some(most) if max(some, default=0) < names and len(some) >= least]
    return tuple(numbers.among(chosen) for _ in range(many))


def samples(times):
    """Scopes of one to five nodes, such that a set of edges often makes a junction tree of them."""
    numbers = Numbers(85)
    for many in range(1, 6):
        for _ in range(times):
            yield sample_scopes(numbers, many)
            yield sample_scopes(numbers, many, 4, 2)
            yield sample_scopes(numbers, many, 4, 2, 2)
    for _ in range(times):
        yield sample_tree(numbers)[1]


class MakesTreeTest(Case):
    def test_example(self):
        self.assertIs(False, self.assert_leaves_arguments(makes_tree, ROW, ((0, 1), (1, 2))))
        self.assertIs(True, self.assert_leaves_arguments(makes_tree, ROW, ((0, 1), (0, 2))))

    def test_edges(self):
        self.assertIs(True, makes_tree(((),), ()))
        self.assertIs(True, makes_tree(((0, 1, 2),), ()))
        self.assertIs(False, makes_tree(((), ()), ()))
        self.assertIs(True, makes_tree(((), ()), ((0, 1),)))
        self.assertIs(False, makes_tree(((),) * 3, ((0, 1), (0, 2), (1, 2))))
        for edges in all_edges(3):
            self.assertIs(False, makes_tree(RING, edges))

    def test_by_the_words_of_the_document(self):
        found = [0, 0]
        for scopes in samples(3):
            for edges in all_edges(len(scopes))[::3 if len(scopes) == 5 else 1]:
                told = makes_tree(scopes, edges)
                self.assertIs(plain_is_junction_tree(graph_of(scopes, edges)), told)
                self.assertIs(is_junction_tree((3, scopes, edges)), told)
                found[told] += 1
        self.assertLess(50, min(found))

    def test_wrong_arguments(self):
        self.assert_refuses(makes_tree, (ROW, ()), [("scopes", WRONG_SCOPES), ("edges", WRONG_EDGES)])


class CountMakingTest(Case):
    def test_example(self):
        self.assert_same(0, self.assert_leaves_arguments(count_making, RING))
        self.assert_same(3, count_making(((0,), (1,), (2,))))

    def test_edges(self):
        self.assert_same(1, count_making(((),)))
        self.assert_same(1, count_making(((0, 1, 2),)))
        # Each tree makes one if all scopes are the same: there are so many trees of labelled nodes.
        for many, trees in ((2, 1), (3, 3), (4, 16), (5, 125)):
            for scope in ((), (3,), (0, 1, 2)):
                self.assert_same(trees, count_making((scope,) * many))
        self.assert_same(0, count_making(LARGE))

    def test_by_the_words_of_the_document(self):
        found = set()
        for scopes in samples(4):
            right = plain_making(scopes)
            self.assert_same(len(right), count_making(scopes))
            found.add(len(right))
        self.assertLess(6, len(found))

    def test_wrong_arguments(self):
        self.assert_refuses(count_making, (ROW,), [("scopes", WRONG_SCOPES)])


class FirstMakingTest(Case):
    def test_example(self):
        self.assert_same(((0, 1), (0, 2)), self.assert_leaves_arguments(first_making, ROW))
        self.assert_same(None, self.assert_leaves_arguments(first_making, RING))

    def test_edges(self):
        self.assert_same((), first_making(((1, 2),)))
        self.assert_same(((0, 1), (0, 2), (0, 3), (0, 4)), first_making(((),) * 5))
        self.assert_same(((0, 3), (0, 4), (1, 4), (2, 4)), first_making(((0,), (1,), (2,), (), (0, 1, 2))))

    def test_by_the_words_of_the_document(self):
        for scopes in samples(4):
            right = plain_making(scopes)
            self.assert_same(right[0] if right else None, first_making(scopes))

    def test_wrong_arguments(self):
        self.assert_refuses(first_making, (ROW,), [("scopes", WRONG_SCOPES)])


class NumbersTest(Case):
    """Point 90."""

    def test_example(self):
        self.assert_same(3, self.assert_leaves_arguments(shared_number, RING, ((0, 1), (0, 2), (1, 2))))
        self.assert_same((2, 3), (most_shared(RING), due_number(RING)))

    def test_edges(self):
        for scopes in (((),), ((0, 1, 2),)):
            self.assert_same((0, 0, 0), (shared_number(scopes, ()), due_number(scopes), most_shared(scopes)))
        same = ((1, 3, 5),) * 5
        self.assert_same((12, 12), (due_number(same), most_shared(same)))
        self.assert_same(30, shared_number(same, tuple(itertools.combinations(range(5), 2))))
        self.assert_same((9, 8), (due_number(LARGE), most_shared(LARGE)))
        self.assert_same((0, 0), (due_number(((0,), (1,), (2,))), most_shared(((0,), (1,), (2,)))))
        self.assert_same(0, shared_number(ROW, ((1, 2),)))

    def test_by_the_words_of_the_document(self):
        """Also: no tree has more than the due number, and exactly those make a junction tree that have as many."""
        for scopes in samples(4):
            due = due_number(scopes)
            self.assert_same(plain_due_number(scopes), due)
            numbers = []
            for edges in plain_trees(scopes):
                numbers.append(shared_number(scopes, edges))
                self.assert_same(plain_shared_number(scopes, edges), numbers[-1])
                self.assertIs(numbers[-1] == due, makes_tree(scopes, edges))
            self.assertLessEqual(max(numbers), due)
            self.assert_same(max(numbers), most_shared(scopes))
            self.assertIs(max(numbers) == due, count_making(scopes) > 0)

    def test_any_set_of_edges(self):
        for scopes in samples(2):
            for edges in all_edges(len(scopes))[::5]:
                self.assert_same(plain_shared_number(scopes, edges), shared_number(scopes, edges))

    def test_wrong_arguments(self):
        self.assert_refuses(shared_number, (ROW, ()), [("scopes", WRONG_SCOPES), ("edges", WRONG_EDGES)])
        self.assert_refuses(due_number, (ROW,), [("scopes", WRONG_SCOPES)])
        self.assert_refuses(most_shared, (ROW,), [("scopes", WRONG_SCOPES)])


class ToldTreeTest(Case):
    def test_example(self):
        told = self.assert_leaves_arguments(told_tree, RING)
        self.assert_same((((0, 1), (0, 2)), ((0, 2),)), told)

    def test_edges(self):
        self.assert_same(((), ()), told_tree(((),)))
        self.assert_same(((), ()), told_tree(((0, 4, 5),)))
        self.assert_same((((0, 1), (0, 2), (0, 3), (0, 4)), ()), told_tree(((2,),) * 5))
        self.assert_same((((0, 1), (0, 2)), ()), told_tree(ROW))

    def test_additions_ascend(self):
        # The nodes 0 and 1 have to go between the others, whatever the tree.
        scopes = ((0, 1), (2, 3), (0, 2), (1, 3))
        edges, additions = told_tree(scopes)
        self.assert_same(plain_additions(scopes, edges), additions)
        self.assert_same(tuple(sorted(set(additions))), additions)
        self.assertEqual(2, len(additions))

    def test_by_the_words_of_the_document(self):
        """Points 91 and 93."""
        found = [0, 0]
        for scopes in samples(6):
            right = min(plain_trees(scopes), key=lambda edges: (len(plain_additions(scopes, edges)), edges))
            told = told_tree(scopes)
            self.assert_same((right, plain_additions(scopes, right)), told)
            first = first_making(scopes)
            self.assertIs(told[1] == (), first is not None)
            self.assertIs(True, first is None or first == told[0])
            found[first is None] += 1
        self.assertLess(10, min(found))

    def test_the_fewest(self):
        """Point 92: whatever variables are added, they are no fewer than the told additions."""
        numbers = Numbers(92)
        found = set()
        for many in (1, 2, 3, 4):
            for _ in range(25):
                scopes = sample_scopes(numbers, many, 5 if many < 4 else 4, 2)
                told = told_tree(scopes)
                self.assertEqual(fewest_additions(scopes), len(told[1]), scopes)
                found.add(len(told[1]))
        self.assertEqual({0, 1, 2}, found)

    def test_additions_make_a_junction_tree(self):
        """Point 92: those of any tree, also where scopes have more than three variables then."""
        largest = 0
        for scopes in samples(5):
            for edges in plain_trees(scopes)[::7] + [told_tree(scopes)[0]]:
                pairs = plain_additions(scopes, edges)
                self.assertTrue(plain_is_junction_tree(graph_of(with_additions(scopes, pairs), edges)))
                self.assertIs(True, accepts_additions(scopes, edges, pairs))
                largest = max(largest, *[len(scope) for scope in with_additions(scopes, pairs)])
            self.assertIs(True, accepts_additions(scopes, *told_tree(scopes)))
        self.assertLess(4, largest)

    def test_wrong_arguments(self):
        self.assert_refuses(told_tree, (ROW,), [("scopes", WRONG_SCOPES)])


class AcceptsAdditionsTest(Case):
    def refuses(self, scopes, edges, value):
        told = repr(value)
        self.assertIs(False, accepts_additions(scopes, edges, value), (scopes, edges, value))
        self.assertEqual(told, repr(value))

    def test_example(self):
        self.assertIs(True, self.assert_leaves_arguments(accepts_additions, RING, ((0, 1), (1, 2)), ((1, 0),)))
        self.refuses(RING, ((0, 1), (0, 2)), ((1, 0),))

    def test_no_additions(self):
        self.assertIs(True, accepts_additions(ROW, ((0, 1), (0, 2)), ()))
        self.assertIs(True, accepts_additions(((),), (), ()))
        self.refuses(ROW, ((0, 1), (1, 2)), ())
        self.refuses(ROW, ((0, 1), (0, 2), (1, 2)), ())
        self.refuses(((), ()), (), ())

    def test_a_variable_that_the_node_has_already(self):
        for pairs in (((0, 0), (1, 0)), ((1, 0), (1, 1)), ((0, 1), (1, 0)), ((1, 0), (2, 2))):
            self.refuses(RING, ((0, 1), (1, 2)), pairs)

    def test_more_than_are_needed(self):
        edges = ((0, 1), (1, 2))
        for pairs in (((0, 2), (1, 0)), ((1, 0), (2, 1)), ((0, 2), (1, 0), (2, 1)), ((1, 0), (1, 5)), ((0, 5), (1, 0)),
                      ((0, 5), (1, 0), (1, 5)), ((1, 0), (1, 3), (1, 4), (1, 5))):
            self.assertIs(True, accepts_additions(RING, edges, pairs), pairs)
        self.refuses(RING, edges, ((0, 5), (1, 0), (2, 5)))
        self.refuses(RING, edges, ((0, 2), (2, 1)))
        every = tuple((node, variable) for node in range(3) for variable in range(6) if variable not in RING[node])
        self.assertIs(True, accepts_additions(RING, edges, every))
        self.refuses(RING, edges, every[1:] + every[:1])

    def test_edges_that_are_no_tree(self):
        every = tuple((node, variable) for node in range(3) for variable in range(6) if variable not in RING[node])
        for edges in all_edges(3):
            self.assertIs(len(edges) == 2, accepts_additions(RING, edges, every))

    def test_different_and_ascending(self):
        scopes, edges = ((0, 3), (), (0, 3)), ((0, 1), (1, 2))
        self.assertIs(True, accepts_additions(scopes, edges, ((1, 0), (1, 3))))
        for pairs in (((1, 3), (1, 0)), ((1, 0), (1, 0), (1, 3)), ((1, 0), (1, 3), (1, 3)), ((1, 0),), ((1, 3),), ()):
            self.refuses(scopes, edges, pairs)

    def test_any_value_at_all(self):
        for scopes, edges in ((RING, ((0, 1), (0, 2))), (ROW, ((0, 1), (0, 2))), (((), (), ()), ((0, 1), (0, 2)))):
            for value in WRONG_ADDITIONS:
                self.refuses(scopes, edges, value)
        self.refuses(RING, ((0, 1), (0, 2)), [(0, 2)])
        self.assertIs(True, accepts_additions(RING, ((0, 1), (0, 2)), ((0, 2),)))

    def test_by_the_words_of_the_document(self):
        """Point 94, for all sets of edges and up to two additions of three nodes."""
        pairs = list(itertools.product(range(3), range(4)))
        found = [0, 0]
        for scopes in (RING, ROW, ((0,), (), (0, 1)), ((0, 1), (2,), (0, 1, 2))):
            for edges in all_edges(3):
                for many in range(3):
                    for value in itertools.product(pairs, repeat=many):
                        right = (list(value) == sorted(set(value))
                                 and all(variable not in scopes[node] for node, variable in value)
                                 and plain_is_junction_tree(graph_of(with_additions(scopes, value), edges)))
                        self.assertIs(right, accepts_additions(scopes, edges, value), (scopes, edges, value))
                        found[right] += 1
        self.assertLess(50, min(found))

    def test_wrong_arguments(self):
        for value in ((), None, ((0, 2),)):
            self.assert_refuses(lambda *before: accepts_additions(*before, value), (ROW, ()), [
                ("scopes", WRONG_SCOPES), ("edges", WRONG_EDGES)])


class ExampleTest(Case):
    def test_point_96(self):
        for edges in itertools.combinations(((0, 1), (0, 2), (1, 2)), 2):
            self.assert_same(2, shared_number(RING, edges))
            self.assertEqual(1, len(plain_additions(RING, edges)))
        self.assert_same((3, ((0, 2),)), (due_number(RING), told_tree(RING)[1]))
