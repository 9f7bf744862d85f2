"""Verdicts on questions, trees of cases, and evidence for verdicts with its judge."""

from tabletalk.checks import is_tuple, is_word
from tabletalk.graphs import all_nodes, is_node
from tabletalk.joins import is_some_of
from tabletalk.questions import check_question, divided
from tabletalk.solutions import all_variables, rejecting
from tabletalk.tables import is_row, part


def verdict(graph, tables, variable, value):
    """The verdict on the question: "never", "always" or "sometimes"."""
    check_question(graph, tables, variable, value)
    rows, others = divided(graph, tables, variable, value)
    if not rows:
        return "never"
    return "sometimes" if others else "always"


def verdict_evidence(graph, tables, variable, value):
    """Evidence for the verdict on the question."""
    check_question(graph, tables, variable, value)
    rows, others = divided(graph, tables, variable, value)
    if not rows:
        return "never", tree_of_cases(graph, tables, {variable: value})
    if others:
        return "sometimes", rows[0], others[0]
    trees = [tree_of_cases(graph, tables, {variable: other}) for other in other_values(graph, value)]
    return "always", rows[0], tuple(trees)


def accepts_verdict(graph, tables, variable, value, evidence):
    """True if the last argument is evidence for the verdict on the question."""
    check_question(graph, tables, variable, value)
    if not is_told(evidence, ("never", "always", "sometimes")):
        return False
    word, first, rest = evidence[0], evidence[1], evidence[2:]
    if word == "never":
        return rest == () and accepts_tree(graph, tables, {variable: value}, first)
    if rest == () or not is_solution(graph, tables, first):
        return False
    at = all_variables(graph).index(variable)
    if first[at] != value:
        return False
    if word == "always":
        return accepts_cases(graph, tables, {}, variable, other_values(graph, value), rest[0])
    return is_solution(graph, tables, rest[0]) and rest[0][at] != value


def is_told(value, words):
    """True if the value is a tuple of one of these words and one or two items more."""
    return is_tuple(value, 2, 3) and is_word(value[0], words)


def other_values(graph, value):
    """The values but this one, ascending."""
    return [other for other in range(graph[0]) if other != value]


def is_solution(graph, tables, value):
    """True if the value is the row of a solution: no other solution has to be known for that."""
    return is_row(graph[0], all_variables(graph), value) and rejecting(graph, tables, value) is None


def tree_of_cases(graph, tables, known):
    """A tree of cases for known values of some variables, a dict of these, which no solution has."""
    for node in all_nodes(graph):
        if excludes(graph, tables, known, node):
            return "no", node
    # Where all variables are known, some node rejects the full row: so there is one that is not known.
    variable = [other for other in all_variables(graph) if other not in known][0]
    return "by", variable, tuple([tree_of_cases(graph, tables, {**known, variable: value})
                                  for value in range(graph[0])])


def excludes(graph, tables, known, node):
    """True if no row in the table of the node has the known values for those of its variables that are known."""
    scope = graph[1][node]
    some = tuple([variable for variable in scope if variable in known])
    values = tuple([known[variable] for variable in some])
    return values not in [part(scope, row, some) for row, _ in tables[node]]


def accepts_tree(graph, tables, known, tree):
    """True if the value is a tree of cases for the known values."""
    if not is_told(tree, ("no", "by")):
        return False
    word, at, rest = tree[0], tree[1], tree[2:]
    if word == "no":
        return rest == () and is_node(graph, at) and excludes(graph, tables, known, at)
    # Each step makes another variable known, so a tree is not followed deeper than there are variables.
    if rest == () or not is_some_of(all_variables(graph), (at,)) or at in known:
        return False
    return accepts_cases(graph, tables, known, at, list(range(graph[0])), rest[0])


def accepts_cases(graph, tables, known, variable, values, trees):
    """True if there is a tree of cases for each of the values, in order, of the variable with the known values."""
    if not is_tuple(trees, len(values), len(values)):
        return False
    return all([accepts_tree(graph, tables, {**known, variable: value}, tree) for value, tree in zip(values, trees)])
