"""Points 1 to 8, 97 to 99 and 102 to 106 as far as they speak of tabletalk.verdicts: verdicts and their evidence."""

import functools
import itertools

from tabletalk.solutions import variables
from tabletalk.verdicts import accepts_verdict, verdict, verdict_evidence
from tests.support import (GRAPH, LARGE, STRANGE, TABLES, WRONG_GRAPHS, WRONG_TABLES, Case, Numbers, Strange,
                           full_tables, plain_solutions, samples)

PAIR = (2, ((0, 1), (1,)), ((0, 1),))
ROWS = ((((0, 0), 2), ((1, 1), 5)), (((1,), 1),))
BOTH = (ROWS[0], (((0,), 0), ((1,), 0)))
NOTHING = (ROWS[0], ())
# Three values, one of which is never there; and a node without variables, the table of which has a row or none.
THREE = (3, ((2,), (0, 2), ()), ())
SOME = ((((0,), 1), ((2,), 2)), (((0, 0), 3), ((1, 0), 4), ((2, 1), 5)), (((), 6),))
ONE = ((((1,), 1),), (((0, 0), 3), ((2, 1), 5)), (((), 6),))
NEVER = ("never", ("by", 1, (("no", 1), ("no", 0))))
WRONG_VARIABLES = STRANGE + [2, 5, 6, -1, (0,), [0], 0.0, "0"]
WRONG_VALUES = STRANGE + [2, 3, -1, (0,), [0], 1.0, "1"]
WRONG = [("graph", WRONG_GRAPHS), ("tables", WRONG_TABLES), ("variable", WRONG_VARIABLES), ("value", WRONG_VALUES)]


# Values that are no evidence, and no tree of cases, for any question.
NO_EVIDENCE = STRANGE + [
    0, 5, (), [], "never", "no", Strange(), (Strange(), 0), (Strange(), 0, 0), ("no",), ("by",), ("never",),
    ("always",), ("sometimes",), ("no", 0, 0, 0), ("by", 0, (), ()), (b"no", 0), (None, None), ("No", 0),
    ("by", 0), ("by", None, ()), ("", 0), ("", 0, ()), ["no", 0], {"no": 0}, ("never", 0), ("never", ()),
    ("always", (), ()), ("sometimes", (), ()), ("always", None, None), ("sometimes", None, None),
    (("never", "always"), 0), ("never", ("never", ("no", 0))), ("by", Strange(), ()), ("by", 0, Strange()),
    ("no", Strange()), ("sometimes", Strange(), Strange()), ("always", Strange(), ())]


def questions(graph):
    return [(variable, value) for variable in variables(graph) for value in range(graph[0])]


@functools.lru_cache(maxsize=None)
def plain_rows(graph, tables):
    return tuple(row for row, _ in plain_solutions(graph, tables))


def plain_verdict(graph, tables, variable, value):
    found = [dict(zip(variables(graph), row))[variable] == value for row in plain_rows(graph, tables)]
    if True not in found:
        return "never"
    return "sometimes" if False in found else "always"


def is_plain_tree(graph, tables, known, tree):
    """Point 98, word by word, for trees of the right form."""
    if tree[0] == "no":
        return tree[1] < len(graph[1]) and not any(
            all(known.get(variable, value) == value for variable, value in zip(graph[1][tree[1]], row))
            for row, _ in tables[tree[1]])
    return (tree[1] in variables(graph) and tree[1] not in known and len(tree[2]) == graph[0] and all(
        is_plain_tree(graph, tables, {**known, tree[1]: value}, each) for value, each in enumerate(tree[2])))


def is_plain_evidence(graph, tables, variable, value, evidence):
    """Point 99, word by word, for evidence of the right form."""
    solutions = {row: dict(zip(variables(graph), row))[variable] for row in plain_rows(graph, tables)}
    others = [other for other in range(graph[0]) if other != value]
    if evidence[0] == "never":
        return is_plain_tree(graph, tables, {variable: value}, evidence[1])
    if solutions.get(evidence[1]) != value:
        return False
    if evidence[0] == "sometimes":
        return solutions.get(evidence[2], value) != value
    return len(evidence[2]) == len(others) and all(
        is_plain_tree(graph, tables, {variable: other}, tree) for other, tree in zip(others, evidence[2]))


def sample_tree(numbers, graph, depth):
    """Something of the form of a tree of cases; often with as many trees as there are values."""
    if not depth or not variables(graph) or numbers.below(3) == 0:
        return "no", numbers.below(len(graph[1]) + 1)
    many = graph[0] if numbers.below(12) else numbers.below(4)
    chosen = numbers.among(variables(graph)) if numbers.below(12) else numbers.below(6)
    return "by", chosen, tuple(sample_tree(numbers, graph, depth - 1) for _ in range(many))


def sample_row(numbers, graph, tables):
    found = plain_rows(graph, tables)
    if found and numbers.below(6):
        return numbers.among(found)
    return tuple(numbers.below(graph[0]) for _ in variables(graph))


def sample_evidence(numbers, graph, tables):
    word = numbers.among(("never", "always", "sometimes"))
    if word == "never":
        return word, sample_tree(numbers, graph, 4)
    row = sample_row(numbers, graph, tables)
    if word == "sometimes":
        return word, row, sample_row(numbers, graph, tables)
    many = graph[0] - 1 if numbers.below(9) else numbers.below(4)
    return word, row, tuple(sample_tree(numbers, graph, 3) for _ in range(many))


def trees_in(tree):
    """All trees of cases in a tree, with the places at which they are."""
    yield (), tree
    if tree[0] == "by":
        for at, each in enumerate(tree[2]):
            for place, inner in trees_in(each):
                yield (at,) + place, inner


def with_tree(tree, place, other):
    """The tree with another one at a place."""
    if not place:
        return other
    trees = tree[2]
    return tree[:2] + (trees[:place[0]] + (with_tree(trees[place[0]], place[1:], other),) + trees[place[0] + 1:],)


class VerdictTest(Case):
    def test_example(self):
        self.assert_same("always", self.assert_leaves_arguments(verdict, PAIR, ROWS, 0, 1))
        self.assert_same("never", verdict(PAIR, ROWS, 0, 0))
        self.assert_same("sometimes", verdict(PAIR, BOTH, 0, 0))

    def test_three_values(self):
        told = [verdict(THREE, SOME, *asked) for asked in questions(THREE)]
        self.assert_same(["sometimes", "sometimes", "never", "always", "never", "never"], told)
        told = [verdict(THREE, ONE, *asked) for asked in questions(THREE)]
        self.assert_same(["never", "never", "always", "never", "always", "never"], told)
        self.assert_same(["sometimes"] * 18, [verdict(LARGE, full_tables(LARGE, 0), *asked)
                                              for asked in questions(LARGE)])

    def test_no_solution(self):
        """Point 104: each verdict is "never", also where the one table with the variable has all rows."""
        for graph, tables in ((PAIR, NOTHING), (PAIR, ((), ROWS[1])), (THREE, SOME[:2] + ((),)), (THREE, ((), (), ()))):
            for variable, value in questions(graph):
                self.assert_same("never", verdict(graph, tables, variable, value))

    def test_by_the_words_of_the_document(self):
        """Also point 102: behind an "always", each other value is "never"."""
        found = []
        for graph, tables in samples(150):
            told = {asked: verdict(graph, tables, *asked) for asked in questions(graph)}
            self.assert_same({asked: plain_verdict(graph, tables, *asked) for asked in questions(graph)}, told)
            for (variable, value), word in told.items():
                if word == "always":
                    self.assertEqual({"never"}, {told[variable, other] for other in range(graph[0]) if other != value})
            found += told.values()
        self.assertLess(50, min(found.count(word) for word in ("never", "always", "sometimes")))

    def test_tables_that_lose_rows(self):
        """Point 102: a verdict "never" stays."""
        numbers = Numbers(102)
        for graph, tables in samples(60):
            fewer = tuple(tuple(item for item in table if numbers.below(4)) for table in tables)
            for asked in questions(graph):
                if verdict(graph, tables, *asked) == "never":
                    self.assert_same("never", verdict(graph, fewer, *asked))

    def test_wrong_arguments(self):
        self.assert_refuses(verdict, (GRAPH, TABLES, 0, 1), WRONG)


class VerdictEvidenceTest(Case):
    def assert_evidence(self, graph, tables, asked, word):
        told = verdict_evidence(graph, tables, *asked)
        self.assertEqual(word, told[0])
        self.assert_same(tuple, told.__class__)
        self.assertIs(True, accepts_verdict(graph, tables, *asked, told))
        self.assertTrue(is_plain_evidence(graph, tables, *asked, told))
        return told

    def test_each_verdict(self):
        self.assert_leaves_arguments(verdict_evidence, PAIR, ROWS, 0, 0)
        self.assert_evidence(PAIR, ROWS, (0, 0), "never")
        self.assert_evidence(PAIR, ROWS, (0, 1), "always")
        self.assert_evidence(PAIR, BOTH, (0, 1), "sometimes")
        for graph, tables in ((THREE, SOME), (THREE, ONE), (THREE, ((),) * 3), (LARGE, full_tables(LARGE, 1))):
            for asked in questions(graph):
                self.assert_evidence(graph, tables, asked, verdict(graph, tables, *asked))

    def test_by_the_words_of_the_document(self):
        """Point 99: there is evidence for each verdict."""
        found = set()
        for graph, tables in samples(120):
            for asked in questions(graph):
                told = self.assert_evidence(graph, tables, asked, plain_verdict(graph, tables, *asked))
                found.add((told[0], graph[0]))
        self.assertEqual(6, len(found))

    def test_many_cases(self):
        """What each two of three nodes allow, all three do not."""
        scopes = ((0, 1), (1, 2), (0, 2))
        unlike = tuple((row, 0) for row in ((0, 1), (1, 0)))
        told = self.assert_evidence((2, scopes, ()), (unlike,) * 3, (0, 1), "never")
        self.assertEqual("by", told[1][0])
        four = (3, tuple(itertools.combinations(range(5), 3))[:5], ())
        sums = tuple(((one, two, (at - one - two) % 3), 0) for at in (0,) for one in range(3) for two in range(3))
        for tables in ((sums,) * 5, (sums,) * 4 + ((((0, 0, 1), 0),),)):
            for asked in questions(four):
                self.assert_evidence(four, tables, asked, plain_verdict(four, tables, *asked))

    def test_wrong_arguments(self):
        self.assert_refuses(verdict_evidence, (GRAPH, TABLES, 0, 1), WRONG)


class AcceptsVerdictTest(Case):
    def assert_judged(self, right, graph, tables, asked, evidence):
        self.assertIs(right, accepts_verdict(graph, tables, *asked, evidence), (graph, tables, asked, evidence))

    def test_example(self):
        self.assertIs(True, self.assert_leaves_arguments(accepts_verdict, PAIR, ROWS, 0, 0, NEVER))
        self.assert_judged(False, PAIR, ROWS, (0, 0), ("never", ("no", 0)))

    def test_never(self):
        self.assert_judged(True, PAIR, ROWS, (1, 0), ("never", ("no", 1)))
        # The known value of the question alone is not excluded by the first node, and another one is not asked for.
        self.assert_judged(False, PAIR, ROWS, (1, 0), ("never", ("no", 0)))
        self.assert_judged(False, PAIR, ROWS, (1, 1), ("never", ("no", 1)))
        self.assert_judged(False, PAIR, ROWS, (0, 1), NEVER)
        self.assert_judged(True, PAIR, NOTHING, (0, 1), ("never", ("no", 1)))
        self.assert_judged(False, PAIR, NOTHING, (0, 1), ("never", ("no", 0)))
        # A node without variables excludes whatever is known, or nothing.
        self.assert_judged(False, THREE, SOME, (0, 2), ("never", ("no", 2)))
        self.assert_judged(True, THREE, SOME[:2] + ((),), (0, 0), ("never", ("no", 2)))
        for node in (-1, 2, 5, True, False, None, "0", (0,), 0.0):
            self.assert_judged(False, PAIR, ROWS, (0, 0), ("never", ("by", 1, (("no", node), ("no", 0)))))
            self.assert_judged(False, PAIR, NOTHING, (0, 0), ("never", ("no", node)))

    def test_cases(self):
        no, here = ("no", 1), ("no", 0)
        self.assert_judged(False, PAIR, ROWS, (0, 0), ("never", ("by", 1, (here, no))))
        self.assert_judged(True, PAIR, NOTHING, (0, 0), ("never", ("by", 1, (no, no))))
        for trees in ((), (no,), (no, no, no), [no, no], no, None, {0: no, 1: no}, 2, "no", (no, None), (None, no)):
            self.assert_judged(False, PAIR, NOTHING, (0, 0), ("never", ("by", 1, trees)))
        # A variable that is known, that is not in the graph, and that is none.
        for variable in (0, 2, 5, 6, -1, True, None, "1", (1,), [1], 1.0):
            self.assert_judged(False, PAIR, NOTHING, (0, 0), ("never", ("by", variable, (no, no))))
        # Another word, and items that belong to the other word.
        for tree in (("no", 1, ()), ("no", 1, (no, no)), ("no", 1, None), ("By", 1, (no, no)), ("", 1, (no, no)),
                     ("never", 1, (no, no)), ("by", 1), ("no",), ("yes", 1)):
            self.assert_judged(False, PAIR, NOTHING, (0, 0), ("never", tree))
            self.assert_judged(False, PAIR, NOTHING, (0, 0), ("never", ("by", 1, (no, tree))))
        inner = ("by", 1, (no, no))
        self.assert_judged(False, PAIR, NOTHING, (0, 0), ("never", ("by", 1, (no, inner))))
        self.assert_judged(False, PAIR, NOTHING, (1, 0), ("never", inner))

    def test_three_values(self):
        self.assert_judged(True, THREE, ONE, (2, 2), ("never", ("no", 0)))
        self.assert_judged(True, THREE, ONE, (0, 1), ("never", ("by", 2, (("no", 1), ("no", 1), ("no", 0)))))
        self.assert_judged(False, THREE, ONE, (0, 1), ("never", ("by", 2, (("no", 1), ("no", 0), ("no", 0)))))
        self.assert_judged(True, THREE, ONE, (0, 0), ("never", ("by", 2, (("no", 0), ("no", 1), ("no", 0)))))
        self.assert_judged(True, THREE, ONE, (0, 0), ("never", ("by", 2, (("no", 0), ("no", 1), ("no", 1)))))
        self.assert_judged(False, THREE, ONE, (0, 0), ("never", ("by", 2, (("no", 0), ("no", 1)))))
        self.assert_judged(True, THREE, ONE, (2, 1), ("always", (2, 1), (("no", 0), ("no", 0))))
        self.assert_judged(False, THREE, ONE, (2, 1), ("always", (2, 1), (("no", 1), ("no", 0))))
        for many in (0, 1, 3, 4):
            self.assert_judged(False, THREE, ONE, (2, 1), ("always", (2, 1), (("no", 0),) * many))
        self.assert_judged(True, THREE, SOME, (0, 1), ("sometimes", (1, 0), (0, 0)))
        self.assert_judged(False, THREE, SOME, (0, 2), ("sometimes", (2, 1), (0, 0)))

    def test_always(self):
        trees = (NEVER[1],)
        self.assert_judged(True, PAIR, ROWS, (0, 1), ("always", (1, 1), trees))
        self.assert_judged(True, PAIR, ROWS, (1, 1), ("always", (1, 1), (("no", 1),)))
        for row in ((0, 0), (0, 1), (1, 0), (1,), (1, 1, 1), [1, 1], (True, True), (1, 1.0), None, 0, (), (2, 2)):
            self.assert_judged(False, PAIR, ROWS, (0, 1), ("always", row, trees))
        for other in ((), trees * 2, list(trees), NEVER[1], None, (None,), (NEVER,), ((),)):
            self.assert_judged(False, PAIR, ROWS, (0, 1), ("always", (1, 1), other))
        # There is a solution with the value, and no tree is one for the other value.
        for tree in (NEVER[1], ("no", 0), ("no", 1)):
            self.assert_judged(False, PAIR, BOTH, (0, 1), ("always", (1, 1), (tree,)))

    def test_the_trees_stand_in_order(self):
        graph, tables = (3, ((0,), (0,)), ()), ((((0,), 0), ((2,), 0)), (((1,), 0), ((2,), 0)))
        self.assert_judged(True, graph, tables, (0, 2), ("always", (2,), (("no", 1), ("no", 0))))
        self.assert_judged(False, graph, tables, (0, 2), ("always", (2,), (("no", 0), ("no", 1))))
        pair = (3, ((0,), (0, 1)), ()), ((((0,), 0),), (((0, 2), 0), ((1, 0), 0)))
        first = ("by", 0, (("no", 1), ("no", 0), ("no", 0)))
        self.assert_judged(True, *pair, (1, 0), ("never", first))
        self.assert_judged(False, *pair, (1, 0), ("never", ("by", 0, first[2][1:] + first[2][:1])))

    def test_sometimes(self):
        self.assert_judged(True, PAIR, BOTH, (0, 1), ("sometimes", (1, 1), (0, 0)))
        self.assert_judged(True, PAIR, BOTH, (0, 0), ("sometimes", (0, 0), (1, 1)))
        for one, other in (((0, 0), (1, 1)), ((1, 1), (1, 1)), ((0, 0), (0, 0)), ((1, 0), (0, 0)), ((1, 1), (0, 1)),
                           ([1, 1], (0, 0)), ((1, 1), [0, 0]), ((True, 1), (0, 0)), ((1, 1), (False, 0)),
                           ((1, 1), None), (None, (0, 0)), ((1, 1), (0,)), ((1, 1), (0, 0, 0)), ((1, 1), ())):
            self.assert_judged(False, PAIR, BOTH, (0, 1), ("sometimes", one, other))
        self.assert_judged(False, PAIR, ROWS, (0, 1), ("sometimes", (1, 1), (0, 0)))

    def test_words(self):
        for right, tables, asked in ((NEVER, ROWS, (0, 0)), (("always", (1, 1), (NEVER[1],)), ROWS, (0, 1)),
                                     (("sometimes", (1, 1), (0, 0)), BOTH, (0, 1))):
            self.assert_judged(True, PAIR, tables, asked, right)
            for word in ("never", "always", "sometimes", "no", "by", "", "Never", None, 0, b"never", Strange()):
                if isinstance(word, Strange) or word != right[0]:
                    self.assert_judged(False, PAIR, tables, asked, (word,) + right[1:])
            self.assert_judged(False, PAIR, tables, asked, list(right))
            self.assert_judged(False, PAIR, tables, asked, right + ((),))
            self.assert_judged(False, PAIR, tables, asked, right + (("no", 0),))
            self.assert_judged(False, PAIR, tables, asked, right[:-1])
            self.assert_judged(False, PAIR, tables, asked, (right,))

    def test_any_value(self):
        for graph, tables in ((PAIR, ROWS), (PAIR, BOTH), (PAIR, NOTHING), (PAIR, ((), ())), (THREE, SOME)):
            for asked in questions(graph):
                for value in NO_EVIDENCE:
                    self.assert_judged(False, graph, tables, asked, value)
                    self.assert_judged(False, graph, tables, asked, ("never", value))
                    self.assert_judged(False, graph, tables, asked, ("never", ("by", 1, (value, ("no", 1)))))
                    self.assert_judged(False, graph, tables, asked, ("always", (1, 1), value))
                    self.assert_judged(False, graph, tables, asked, ("always", (1, 1), (value,)))
                    self.assert_judged(False, graph, tables, asked, ("always", value, (NEVER[1],)))
                    self.assert_judged(False, graph, tables, asked, ("sometimes", value, (0, 0)))
                    self.assert_judged(False, graph, tables, asked, ("sometimes", (1, 1), value))

    def test_deep_trees(self):
        for many in (1, 7, 400, 900):
            for step in (lambda tree: ("by", 1, (tree, tree)), lambda tree: ("by", 0, (tree, tree)),
                         lambda tree: (tree,), lambda tree: [tree], lambda tree: ("never", tree),
                         lambda tree: ("no", tree), lambda tree: (tree, 0, (("no", 0),)),
                         lambda tree: ("by", tree, (tree, tree))):
                tree = ("no", 5)
                for _ in range(many):
                    tree = step(tree)
                for value in (tree, ("never", tree), ("always", (1, 1), (tree,)), ("always", tree, (("no", 0),)),
                              ("sometimes", tree, tree), ("sometimes", (1, 1), tree), (tree, tree)):
                    for asked in questions(PAIR):
                        self.assert_judged(False, PAIR, NOTHING, asked, value)
                        self.assert_judged(False, PAIR, BOTH, asked, value)

    def test_trees_as_deep_as_there_are_variables(self):
        wide = (2, ((0, 1, 2), (3, 4, 5)), ())
        tables = ((((0, 0, 0), 0),), ())
        tree = ("no", 1)
        for variable in range(1, 6):
            tree = ("by", variable, (tree, tree))
            self.assert_judged(True, wide, tables, (0, 0), ("never", tree))
        for variable in range(6):
            self.assert_judged(False, wide, tables, (0, 0), ("never", ("by", variable, (tree, tree))))
        # At the end of each branch all is known, and the row is excluded by the only node that can.
        full = full_tables(wide, 0)
        for gone in full[0]:
            left = tuple(item for item in full[0] if item != gone), full[1]
            deep = ("no", 0)
            self.assert_judged(False, wide, left, (0, gone[0][0]), ("never", ("by", 1, (("by", 2, (deep, deep)),) * 2)))

    def test_by_the_words_of_the_document(self):
        """Point 99: whoever wrote the evidence, the verdict is its word."""
        numbers = Numbers(99)
        accepted = []
        for graph, tables in samples(160):
            for asked in questions(graph):
                for _ in range(6):
                    evidence = sample_evidence(numbers, graph, tables)
                    right = is_plain_evidence(graph, tables, *asked, evidence)
                    self.assert_judged(right, graph, tables, asked, evidence)
                    if right:
                        self.assertEqual(evidence[0], plain_verdict(graph, tables, *asked))
                        accepted.append(evidence[0])
        self.assertLess(10, min(accepted.count(word) for word in ("never", "always", "sometimes")))

    def test_changed_trees(self):
        """Each tree in a tree of cases matters."""
        numbers = Numbers(98)
        seen = [0, 0]
        for graph, tables in samples(150):
            for asked in questions(graph):
                told = verdict_evidence(graph, tables, *asked)
                if told[0] == "never":
                    places = list(trees_in(told[1]))
                    place, _ = numbers.among(places)
                    changed = ("never", with_tree(told[1], place, sample_tree(numbers, graph, 1)))
                    right = is_plain_evidence(graph, tables, *asked, changed)
                    self.assert_judged(right, graph, tables, asked, changed)
                    self.assert_judged(False, graph, tables, asked, ("never", with_tree(told[1], place, ("no", 5))))
                    seen[right] += 1
        self.assertLess(50, min(seen))

    def test_wrong_arguments(self):
        self.assert_refuses(lambda *asked: accepts_verdict(*asked, None), (GRAPH, TABLES, 0, 1), WRONG)
        self.assert_refuses(lambda *asked: accepts_verdict(*asked, ("never", ("no", 0))), (GRAPH, TABLES, 0, 1), WRONG)


class ExampleTest(Case):
    def test_point_106(self):
        for variable in (0, 1):
            self.assert_same("always", verdict(PAIR, ROWS, variable, 1))
