"""Points 8 to 18: messages of tables, projections, joins, restrictions and totals."""

import itertools
import unittest

from tabletalk.errors import BadValue, NotPossible, TooLarge
from tabletalk.joins import as_message, early, join, project, restrict, total
from tabletalk.tables import is_message
from tests.support import (STRANGE, Case, Numbers, all_rows, all_some, plain_projection, restricted, sample_message,
                           sample_table, some_of)

TABLE = (((0, 0), 3), ((0, 1), 1), ((1, 1), 5))
ONE = (((0, 0), 1, 3), ((0, 1), 1, 1), ((1, 1), 1, 5))
TWO = (((1, 0), 1, 2), ((1, 1), 1, 0))
UNIT = (((), 1, 0),)

WRONG_VALUES = STRANGE + [0, 1, 4, -2, 20, (2,), [2]]
WRONG_SCOPES = STRANGE + [0, [0, 1], (1, 0), (0, 0), (0, 1, 2, 3), (-1, 0), (0, 6), (0, True), ((0, 1),)]
WRONG_SOME = STRANGE + [0, [0, 1], (1, 0), (0, 0), (0, 1, 1), (-1, 0), (0, 6), (False, 1), (0, 1, 2, 3, 4, 5, 6)]
WRONG_TABLES = STRANGE + [
    0, list(TABLE), TABLE[::-1], TABLE + TABLE[-1:], (((0, 0), 101),), (((0, 0), -1),), (((0, 0), True),),
    (((0, 2), 1),), (((0,), 1),), (((0, 0, 0), 1),), (([0, 0], 1),), ([(0, 0), 1],), (((0, 0),),), (((0, False), 1),),
    (((0, 0), 1, 1),), (((1, 0), 1), ((0, 1), 1)), (((0, 0), 1), ((0, 0), 2)), ((), 1)]
WRONG_MESSAGES = STRANGE + [
    0, list(ONE), ONE[::-1], ONE + ONE[-1:], (((0, 0), 0, 1),), (((0, 0), 1000001, 1),), (((0, 0), 1, -1),),
    (((0, 0), 1, 10001),), (((0, 0), True, 1),), (((0, 0), 1, False),), (((0, 2), 1, 1),), (((0,), 1, 1),), UNIT,
    (((0, 0, 0), 1, 1),), (([0, 0], 1, 1),), ([(0, 0), 1, 1],), (((0, 0), 1),), (((0, 0), 1, 1, 1),),
    (((0, True), 1, 1),), (((0, 1), 1, 1), ((0, 0), 1, 1)), (((0, 0), 1, 1), ((0, 0), 2, 1))]


def plain_join(values, some, message, others, other):
    """The join by looking at each row of the variables of both."""
    both = tuple(sorted(set(some) | set(others)))
    one_by_row = {row: (count, least) for row, count, least in message}
    other_by_row = {row: (count, least) for row, count, least in other}
    found = []
    for row in all_rows(values, both):
        here, there = one_by_row.get(restricted(both, row, some)), other_by_row.get(restricted(both, row, others))
        if here and there:
            found.append((row, here[0] * there[0], here[1] + there[1]))
    return tuple(found)


def sample_pairs(many):
    """Pairs of messages, with their values and variables."""
    numbers = Numbers(5)
    choices = all_some()
    for _ in range(many):
        values = 2 + numbers.below(2)
        some, others = numbers.among(choices), numbers.among(choices)
        yield values, some, sample_message(numbers, values, some), others, sample_message(numbers, values, others)


class AsMessageTest(Case):
    def test_each_row_has_the_count_1_and_its_cost(self):
        self.assert_same(ONE, self.assert_leaves_arguments(as_message, 2, (0, 1), TABLE))
        self.assert_same((), as_message(3, (0, 1), ()))
        self.assert_same((((), 1, 100),), as_message(2, (), (((), 100),)))
        self.assert_same((((0, 2, 1), 1, 0),), as_message(3, (0, 3, 5), (((0, 2, 1), 0),)))

    def test_samples(self):
        numbers = Numbers(1)
        for scope in all_some(3):
            table = sample_table(numbers, 3, scope)
            self.assert_same(tuple((row, 1, cost) for row, cost in table), as_message(3, scope, table))
            self.assertTrue(is_message(3, scope, as_message(3, scope, table)))

    def test_wrong_arguments(self):
        wrong = [("values", WRONG_VALUES), ("scope", WRONG_SCOPES), ("table", WRONG_TABLES)]
        self.assert_refuses(as_message, (2, (0, 1), TABLE), wrong)

    def test_a_value_too_much(self):
        table = (((0, 2), 1),)
        self.assert_same((((0, 2), 1, 1),), as_message(3, (0, 1), table))
        self.assert_refuses(as_message, (2, (0, 1), TABLE), [("values", [1]), ("scope", [None]), ("table", [table])])


class ProjectTest(Case):
    def test_counts_are_added_and_the_least_cost_is_taken(self):
        self.assert_same((((0,), 2, 1), ((1,), 1, 5)), self.assert_leaves_arguments(project, 2, (0, 1), ONE, (0,)))
        self.assert_same((((0,), 1, 3), ((1,), 2, 1)), project(2, (0, 1), ONE, (1,)))
        self.assert_same((((), 3, 1),), project(2, (0, 1), ONE, ()))
        many = (((0, 0), 4, 7), ((0, 1), 5, 7), ((0, 2), 6, 8))
        self.assert_same((((0,), 15, 7),), project(3, (2, 4), many, (2,)))

    def test_no_rows_and_no_variables(self):
        self.assert_same((), project(2, (0, 1), (), ()))
        self.assert_same((), project(2, (0, 1), (), (1,)))
        self.assert_same((), project(2, (), (), ()))
        self.assert_same((((), 5, 2),), project(2, (), (((), 5, 2),), ()))

    def test_by_the_words_of_the_document(self):
        for values, some, message, _, _ in sample_pairs(60):
            for kept in some_of(some):
                self.assert_same(plain_projection(some, message, kept), project(values, some, message, kept))

    def test_to_all_variables_it_is_the_message(self):
        for values, some, message, _, _ in sample_pairs(60):
            self.assert_same(message, project(values, some, message, some))

    def test_of_a_projection(self):
        for values, some, message, _, _ in sample_pairs(20):
            for first in some_of(some):
                for last in some_of(first):
                    told = project(values, first, project(values, some, message, first), last)
                    self.assert_same(project(values, some, message, last), told)

    def test_counts_from_1_to_a_million(self):
        self.assert_same((((), 1000000, 0),), project(2, (0,), (((0,), 999999, 0), ((1,), 1, 10000)), ()))
        self.assert_same((((), 1, 10000),), project(2, (0,), (((0,), 1, 10000),), ()))
        for message in ((((0,), 1000000, 0), ((1,), 1, 0)), (((0,), 1000000, 0), ((1,), 1000000, 0))):
            self.assert_raises_with(TooLarge, "what", "message", project, 2, (0,), message, ())
            self.assert_same(message, project(2, (0,), message, (0,)))
        last = (((0, 0), 1, 0), ((1, 0), 1000000, 0), ((1, 1), 1, 0))
        self.assert_raises_with(TooLarge, "what", "message", project, 2, (0, 1), last, (0,))

    def test_wrong_arguments(self):
        wrong = [("values", WRONG_VALUES), ("some", WRONG_SOME), ("message", WRONG_MESSAGES),
                 ("kept", WRONG_SOME + [(2,), (0, 2), (5,), (0, 1, 2)])]
        self.assert_refuses(project, (2, (0, 1), ONE, (0,)), wrong)
        too_large = (((0, 0), 1000000, 0), ((1, 0), 1, 0))
        self.assert_refuses(project, (2, (0, 1), too_large, ()), wrong)

    def test_kept_are_among_the_variables(self):
        self.assert_refuses(project, (2, (), UNIT, ()), [("values", [1]), ("some", [0]), ("message", [0, ONE]),
                                                         ("kept", [(0,), (5,), (1,)])])


class JoinTest(Case):
    def test_rows_come_together_if_they_agree(self):
        told = self.assert_leaves_arguments(join, 2, (0, 1), ONE, (1, 2), TWO)
        self.assert_same((((0, 1, 0), 1, 3), ((0, 1, 1), 1, 1), ((1, 1, 0), 1, 7), ((1, 1, 1), 1, 5)), told)

    def test_counts_are_multiplied_and_costs_added(self):
        told = join(3, (1,), (((0,), 3, 4), ((2,), 5, 6)), (0, 1), (((2, 2), 7, 10), ((2, 1), 9, 9))[:1])
        self.assert_same((((2, 2), 35, 16),), told)
        self.assert_same((((1, 0), 6, 9),), join(2, (4,), (((0,), 2, 4),), (3,), (((1,), 3, 5),)))

    def test_by_the_words_of_the_document(self):
        for values, some, message, others, other in sample_pairs(200):
            told = join(values, some, message, others, other)
            self.assert_same(plain_join(values, some, message, others, other), told)

    def test_in_both_directions(self):
        for values, some, message, others, other in sample_pairs(60):
            told = join(values, some, message, others, other)
            self.assert_same(told, join(values, others, other, some, message))

    def test_three_messages(self):
        numbers = Numbers(9)
        for _ in range(60):
            values = 2 + numbers.below(2)
            (a, one), (b, two), (c, three) = [(some, sample_message(numbers, values, some))
                                              for some in [numbers.among(all_some(3)) for _ in range(3)]]
            left = join(values, tuple(sorted(set(a + b))), join(values, a, one, b, two), c, three)
            right = join(values, a, one, tuple(sorted(set(b + c))), join(values, b, two, c, three))
            self.assert_same(left, right)

    def test_the_empty_row_alone_changes_nothing(self):
        for values, some, message, _, _ in sample_pairs(40):
            self.assert_same(message, join(values, some, message, (), UNIT))
            self.assert_same(message, join(values, (), UNIT, some, message))
        self.assert_same((((), 6, 9),), join(2, (), (((), 2, 4),), (), (((), 3, 5),)))

    def test_no_rows(self):
        self.assert_same((), join(2, (0, 1), ONE, (1, 2), ()))
        self.assert_same((), join(2, (0, 1), (), (1, 2), TWO))
        self.assert_same((), join(2, (), (), (), UNIT))
        self.assert_same((), join(2, (0,), (((0,), 1, 1),), (0,), (((1,), 1, 1),)))

    def test_counts_up_to_a_million(self):
        thousand = (((0,), 1000, 0),)
        self.assert_same((((0,), 1000000, 0),), join(2, (0,), thousand, (0,), thousand))
        self.assert_same((((0,), 1000000, 0),), join(2, (0,), (((0,), 1, 0),), (0,), (((0,), 1000000, 0),)))
        for more in (1001, 1000000):
            self.assert_raises_with(TooLarge, "what", "message", join, 2, (0,), thousand, (0,), (((0,), more, 0),))

    def test_costs_up_to_10000(self):
        half = (((0,), 1, 5000),)
        self.assert_same((((0,), 1, 10000),), join(2, (0,), half, (0,), half))
        self.assert_same((((0,), 1, 10000),), join(2, (0,), (((0,), 1, 0),), (0,), (((0,), 1, 10000),)))
        for more in (5001, 10000):
            self.assert_raises_with(TooLarge, "what", "message", join, 2, (0,), half, (0,), (((0,), 1, more),))

    def test_rows_that_do_not_come_together_are_not_too_large(self):
        large, other = (((0,), 1000000, 10000),), (((1,), 1000000, 10000),)
        self.assert_same((), join(2, (0,), large, (0,), other))
        behind = (((0,), 1, 0), ((1,), 1000000, 10000))
        self.assert_raises_with(TooLarge, "what", "message", join, 2, (0,), behind, (0,), other)

    def test_wrong_arguments(self):
        wrong = [("values", WRONG_VALUES), ("some", WRONG_SOME), ("message", WRONG_MESSAGES), ("others", WRONG_SOME),
                 ("other", WRONG_MESSAGES)]
        self.assert_refuses(join, (2, (0, 1), ONE, (1, 2), TWO), wrong)
        large = (((0, 0), 1000000, 10000),)
        self.assert_refuses(join, (2, (0, 1), large, (1, 2), large), wrong)

    def test_each_message_is_over_its_own_variables(self):
        one, two = (((0,), 1, 1),), (((0, 1), 1, 1),)
        self.assert_refuses(join, (2, (0,), one, (0, 1), two), [
            ("values", [1]), ("some", [0]), ("message", [two]), ("others", [0]), ("other", [one])])


class EarlyTest(Case):
    def test_example(self):
        told = self.assert_leaves_arguments(early, 2, (0, 1), ONE, (1, 2), TWO, (0,))
        self.assert_same((((0,), 2, 1), ((1,), 2, 5)), told)

    def test_it_is_the_projection_of_the_join(self):
        for values, some, message, others, other in sample_pairs(40):
            both = tuple(sorted(set(some) | set(others)))
            whole = join(values, some, message, others, other)
            for kept in some_of(both):
                told = early(values, some, message, others, other, kept)
                self.assert_same(project(values, both, whole, kept), told)

    def test_it_is_the_projection_of_the_join_of_two_projections(self):
        for values, some, message, others, other in sample_pairs(20):
            for kept in some_of(tuple(sorted(set(some) | set(others)))):
                first = tuple(sorted(set(some) & (set(kept) | set(others))))
                second = tuple(sorted(set(others) & (set(kept) | set(some))))
                both = join(values, first, project(values, some, message, first),
                            second, project(values, others, other, second))
                last = project(values, tuple(sorted(set(first + second))), both, kept)
                self.assert_same(last, early(values, some, message, others, other, kept))

    def test_no_rows_and_no_variables(self):
        self.assert_same((), early(2, (0, 1), ONE, (1, 2), (), (0, 2)))
        self.assert_same((), early(2, (), (), (), UNIT, ()))
        self.assert_same((((), 6, 9),), early(2, (), (((), 2, 4),), (), (((), 3, 5),), ()))

    def test_too_large(self):
        half = (((0,), 500000, 5000), ((1,), 500000, 5000))
        small = (((0,), 1, 5000),)
        self.assert_same((((), 1000000, 10000),), early(2, (0,), half, (1,), small, ()))
        self.assert_raises_with(TooLarge, "what", "message", early, 2, (0,), half, (1,), (((0,), 2, 0),), ())
        self.assert_raises_with(TooLarge, "what", "message", early, 2, (0,), half, (1,), (((0,), 1, 5001),), ())
        told = early(2, (0,), half, (1,), (((0,), 2, 0),), (0,))
        self.assert_same((((0,), 1000000, 5000), ((1,), 1000000, 5000)), told)
        ones = (((0,), 1, 0), ((1,), 1, 0), ((2,), 1, 0))
        self.assert_raises_with(TooLarge, "what", "message", early, 3, (0,), (((0,), 333334, 0),), (1,), ones, (0,))
        self.assert_raises_with(TooLarge, "what", "message", early, 3, (0,), ones, (1,), (((2,), 333334, 0),), ())

    def test_what_comes_on_the_way_can_be_greater(self):
        # The projection of the first message to the shared variable has a count of 2000000, but nothing meets it.
        many = (((0, 0), 1000000, 0), ((1, 0), 1000000, 0))
        self.assert_raises_with(TooLarge, "what", "message", project, 2, (0, 1), many, (1,))
        self.assert_same((), early(2, (0, 1), many, (1,), (((1,), 1, 0),), ()))
        self.assert_same((), early(2, (1,), (((1,), 1, 0),), (0, 1), many, ()))
        # One row of the join costs 10001, but a cheaper one has the same part.
        message, other = (((0,), 1, 0), ((1,), 1, 10000)), (((0,), 1, 1), ((1,), 1, 1))
        self.assert_raises_with(TooLarge, "what", "message", join, 2, (0,), message, (0,), other)
        self.assert_same((((), 2, 1),), early(2, (0,), message, (0,), other, ()))

    def test_wrong_arguments(self):
        wrong = [("values", WRONG_VALUES), ("some", WRONG_SOME), ("message", WRONG_MESSAGES), ("others", WRONG_SOME),
                 ("other", WRONG_MESSAGES), ("kept", WRONG_SOME + [(3,), (0, 3), (2, 5), (0, 1, 2, 3)])]
        self.assert_refuses(early, (2, (0, 1), ONE, (1, 2), TWO, (0, 1, 2)), wrong)
        large = (((0, 0), 1000000, 10000),)
        self.assert_refuses(early, (2, (0, 1), large, (1, 2), large, ()), wrong)


class RestrictTest(Case):
    def test_just_the_rows_with_the_value(self):
        self.assert_same((((0, 0), 1, 3),), self.assert_leaves_arguments(restrict, 2, (0, 1), ONE, 1, 0))
        self.assert_same(ONE[1:], restrict(2, (0, 1), ONE, 1, 1))
        self.assert_same(ONE[:2], restrict(2, (0, 1), ONE, 0, 0))
        self.assert_same((), restrict(3, (0, 1), ONE, 0, 2))
        self.assert_same((), restrict(2, (0, 1), (), 0, 1))
        large = (((0,), 1000000, 10000),)
        self.assert_same(large, restrict(2, (5,), large, 5, 0))

    def test_each_row_is_in_exactly_one(self):
        for values, some, message, _, _ in sample_pairs(60):
            for at, variable in enumerate(some):
                told = [restrict(values, some, message, variable, value) for value in range(values)]
                self.assert_same(message, tuple(sorted(itertools.chain(*told))))
                for value in range(values):
                    self.assert_same(tuple(item for item in message if item[0][at] == value), told[value])

    def test_wrong_arguments(self):
        wrong = [("values", WRONG_VALUES), ("some", WRONG_SOME), ("message", WRONG_MESSAGES),
                 ("variable", STRANGE + [2, 5, 6, -1, (1,), [1], (), 1.0]),
                 ("value", STRANGE + [2, 3, -1, (0,), [0], 1.0])]
        self.assert_refuses(restrict, (2, (0, 1), ONE, 1, 0), wrong)

    def test_three_values_and_no_variables(self):
        self.assert_refuses(restrict, (3, (0, 1), ONE, 1, 2), [
            ("values", [4]), ("some", [0]), ("message", [0]), ("variable", [2]), ("value", [3, -1])])
        for variable in (0, 5):
            self.assert_raises_with(BadValue, "name", "variable", restrict, 2, (), UNIT, variable, 0)


class TotalTest(Case):
    def test_the_sum_of_the_counts_and_the_least_cost(self):
        self.assert_same((3, 1), self.assert_leaves_arguments(total, 2, (0, 1), ONE))
        self.assert_same((5, 0), total(2, (), (((), 5, 0),)))
        self.assert_same((1, 10000), total(2, (0,), (((1,), 1, 10000),)))
        self.assert_same((9, 4), total(3, (0,), (((0,), 2, 9), ((1,), 3, 4), ((2,), 4, 7))))

    def test_a_total_has_no_bound(self):
        message = tuple((row, 1000000, 10000) for row in all_rows(3, range(6)))
        self.assert_same((729000000, 10000), total(3, (0, 1, 2, 3, 4, 5), message))

    def test_of_a_projection(self):
        for values, some, message, _, _ in sample_pairs(60):
            for kept in some_of(some) if message else []:
                told = total(values, kept, project(values, some, message, kept))
                self.assert_same(total(values, some, message), told)

    def test_of_a_join_without_a_shared_variable(self):
        numbers = Numbers(3)
        for some, others in itertools.product(all_some(3), all_some(3)):
            message, other = sample_message(numbers, 2, some), sample_message(numbers, 2, others)
            if message and other and not set(some) & set(others):
                told = total(2, tuple(sorted(some + others)), join(2, some, message, others, other))
                here, there = total(2, some, message), total(2, others, other)
                self.assert_same((here[0] * there[0], here[1] + there[1]), told)

    def test_no_rows(self):
        for some in ((), (0, 1)):
            self.assert_raises_with(NotPossible, "why", "rows", total, 2, some, ())

    def test_wrong_arguments(self):
        wrong = [("values", WRONG_VALUES), ("some", WRONG_SOME), ("message", WRONG_MESSAGES)]
        self.assert_refuses(total, (2, (0, 1), ONE), wrong)
        self.assert_refuses(total, (2, (0, 1), ()), wrong)


class ExampleTest(Case):
    def test_point_18(self):
        one = as_message(2, (0, 1), TABLE)
        two = as_message(2, (1, 2), (((1, 0), 2), ((1, 1), 0)))
        both = join(2, (0, 1), one, (1, 2), two)
        self.assertEqual(4, len(both))
        self.assert_same((((0,), 2, 1), ((1,), 2, 5)), project(2, (0, 1, 2), both, (0,)))

    def test_interface(self):
        one = as_message(2, (0, 1), TABLE)
        two = as_message(2, (1, 2), (((1, 0), 2), ((1, 1), 0)))
        told = one, project(2, (0, 1), one, (0,)), total(2, (0, 1), one)
        self.assert_same((ONE, (((0,), 2, 1), ((1,), 1, 5)), (3, 1)), told)
        self.assert_same((((0, 1, 0), 1, 3), ((0, 1, 1), 1, 1), ((1, 1, 0), 1, 7), ((1, 1, 1), 1, 5)),
                         join(2, (0, 1), one, (1, 2), two))
        self.assert_same(((((0,), 2, 1), ((1,), 2, 5)), (((0, 0), 1, 3),)),
                         (early(2, (0, 1), one, (1, 2), two, (0,)), restrict(2, (0, 1), one, 1, 0)))
        self.assert_same((True, ()), (is_message(2, (), (((), 5, 0),)), project(2, (0, 1), (), ())))


if __name__ == "__main__":
    unittest.main()
