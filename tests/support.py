"""What the tests share: wrong values, calls that must be refused, and samples."""

import copy
import itertools
import unittest

from tabletalk.errors import BadValue

# Values of the wrong kind for each argument of the program that is a tuple or an integer.
STRANGE = [None, "", "0", b"", 0.0, 2.0, True, False, [], {}, set(), object, (None,), ("0",), ([],), (0.0,), (True,)]


def all_rows(values, some):
    return list(itertools.product(range(values), repeat=len(some)))


def all_some(most=6):
    """All ascending tuples of at most so many variables."""
    return [some for many in range(most + 1) for some in itertools.combinations(range(6), many)]


def restricted(some, row, kept):
    """The part of a row, by a dict of its values."""
    worth = dict(zip(some, row))
    return tuple(worth[variable] for variable in kept)


class Numbers:
    """A fixed sequence of numbers that looks like chance, the same in each run."""

    def __init__(self, seed):
        self.state = seed

    def below(self, many):
        self.state = (self.state * 6364136223846793005 + 1442695040888963407) % 2 ** 64
        return (self.state >> 33) % many

    def among(self, items):
        return items[self.below(len(items))]


def sample_table(numbers, values, scope):
    keep = 1 + numbers.below(5)
    rows = [row for row in all_rows(values, scope) if numbers.below(5) < keep]
    return tuple((row, numbers.below(101)) for row in rows)


def sample_message(numbers, values, some):
    keep = numbers.below(5)
    rows = [row for row in all_rows(values, some) if numbers.below(5) <= keep]
    return tuple((row, 1 + numbers.below(9), numbers.below(50)) for row in rows)


def sample_graph(numbers):
    many = 1 + numbers.below(5)
    scopes = tuple(numbers.among(all_some(3)) for _ in range(many))
    edges = tuple(edge for edge in itertools.combinations(range(many), 2) if numbers.below(2))
    return 2 + numbers.below(2), scopes, edges


def sample_tables(numbers, graph):
    return tuple(sample_table(numbers, graph[0], scope) for scope in graph[1])


class Case(unittest.TestCase):
    def assert_same(self, one, other):
        """Equal, and of the same kinds throughout: 1 is not True, a list is no tuple."""
        self.assertEqual(repr(one), repr(other))

    def assert_raises_with(self, error, attribute, word, function, *arguments):
        before = copy.deepcopy(arguments)
        with self.assertRaises(error) as caught:
            function(*arguments)
        self.assertIs(error, caught.exception.__class__, arguments)
        self.assertEqual(word, getattr(caught.exception, attribute), arguments)
        self.assert_same(before, arguments)

    def assert_refuses(self, function, good, wrong):
        """Each wrong value is refused by its name, with right and with wrong values for the arguments behind it.

        `wrong` has for each argument, in order, its name and a list of wrong values, the first of which is put there
        when an earlier argument is the one to be named.
        """
        self.assertEqual(len(good), len(wrong))
        for at, (name, values) in enumerate(wrong):
            wrong_behind = tuple(others[0] for _, others in wrong[at + 1:])
            for value in values:
                for behind in (tuple(good[at + 1:]), wrong_behind):
                    arguments = tuple(good[:at]) + (value,) + behind
                    with self.subTest(name=name, arguments=arguments):
                        self.assert_raises_with(BadValue, "name", name, function, *arguments)

    def assert_leaves_arguments(self, function, *arguments):
        """Two calls return the same, and leave the arguments as they were."""
        before = copy.deepcopy(arguments)
        first = function(*arguments)
        self.assert_same(before, arguments)
        self.assert_same(first, function(*copy.deepcopy(arguments)))
        return first
