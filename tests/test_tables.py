"""Points 3 to 7, 9 and 10 as far as tabletalk.tables tells them: scopes, rows, tables and messages."""

import itertools
import unittest

from tabletalk.tables import is_message, is_scope, is_table
from tests.support import STRANGE, Case, all_rows, all_some

FULL = tuple((row, 7) for row in all_rows(2, (0, 1)))


class ScopeTest(Case):
    def test_ascending_tuples_of_up_to_three_variables(self):
        scopes = all_some(3)
        self.assertEqual(1 + 6 + 15 + 20, len(scopes))
        for many in range(5):
            for value in itertools.product(range(-1, 7), repeat=many):
                self.assertIs(value in scopes, is_scope(value), value)

    def test_four_variables_are_too_many(self):
        self.assertIs(True, is_scope((0, 1, 5)))
        self.assertIs(False, is_scope((0, 1, 2, 3)))
        self.assertIs(False, is_scope((0, 1, 2, 3, 4, 5)))

    def test_other_kinds(self):
        for value in STRANGE + [0, 1, [0], [0, 1], (False,), (0, True), (0, None), (0, "1"), (0.0, 1), ((0,),),
                                {0: 1}, "01", b"\x00", range(2), (0, [1])]:
            self.assertIs(False, is_scope(value), value)


class TableTest(Case):
    def is_table(self, value, values=2, scope=(0, 1)):
        told = is_table(values, scope, value)
        self.assertIsInstance(told, bool)
        return told

    def test_ordinary_tables(self):
        self.assertTrue(self.is_table((((0, 0), 3), ((0, 1), 1), ((1, 1), 5))))
        self.assertTrue(self.is_table(FULL))
        self.assertTrue(self.is_table((((1, 1), 0),)))

    def test_the_empty_table_and_the_empty_row(self):
        for values in (2, 3):
            for scope in all_some(3):
                self.assertTrue(self.is_table((), values, scope))
        self.assertTrue(self.is_table((((), 4),), 2, ()))
        self.assertFalse(self.is_table((((), 4), ((), 5)), 2, ()))
        self.assertFalse(self.is_table((((), 4),), 2, (0,)))
        self.assertFalse(self.is_table((((0,), 4),), 2, ()))

    def test_all_rows_of_each_scope(self):
        for values in (2, 3):
            for scope in all_some(3):
                table = tuple((row, 100) for row in all_rows(values, scope))
                self.assertTrue(self.is_table(table, values, scope))
                if scope:
                    self.assertFalse(self.is_table(table[::-1], values, scope))

    def test_two_and_three_values(self):
        for values in (2, 3):
            for scope in ((0,), (2, 5), (1, 3, 4)):
                for at in range(len(scope)):
                    for worth in (-1, 0, 1, 2, 3):
                        row = (0,) * at + (worth,) + (0,) * (len(scope) - at - 1)
                        self.assertEqual(0 <= worth < values, self.is_table(((row, 1),), values, scope), row)

    def test_costs(self):
        for cost in (-1, 0, 1, 99, 100, 101, 10000):
            self.assertEqual(0 <= cost <= 100, self.is_table((((0, 0), cost), ((0, 1), 5))), cost)
            self.assertEqual(0 <= cost <= 100, self.is_table((((0, 0), 5), ((0, 1), cost))), cost)

    def test_rows_ascend_and_are_different(self):
        for rows in itertools.product(all_rows(2, (0, 1)), repeat=3):
            ascending = rows[0] < rows[1] < rows[2]
            self.assertEqual(ascending, self.is_table(tuple((row, 1) for row in rows)), rows)
        self.assertFalse(self.is_table((((0, 0), 1), ((0, 0), 2))))
        self.assertTrue(self.is_table((((0, 0), 9), ((0, 1), 0))))

    def test_other_kinds(self):
        for value in STRANGE + [0, [((0, 0), 1)], {((0, 0), 1): 1}, FULL[0]]:
            self.assertFalse(self.is_table(value), value)
        for item in STRANGE + [0, [(0, 0), 1], ((0, 0),), ((0, 0), 1, 1), ([0, 0], 1), ((0,), 1), ((0, 0, 0), 1),
                               ((0, 0), True), ((0, 0), False), ((0, 0), None), ((0, 0), 1.0), ((0, 0), "1"),
                               ((0, False), 1), ((True, 0), 1), ((0, 1.0), 1), ((0, "1"), 1), (0, 1), (None, 1),
                               ("00", 1), ((0, None), 1), ((0, 0), [1])]:
            self.assertFalse(self.is_table((item,)), item)
            self.assertFalse(self.is_table((((0, 0), 1), item)), item)
            self.assertFalse(self.is_table((item, ((1, 1), 1))), item)

    def test_the_value_stays(self):
        for value in ([((0, 0), 1)], ([[0, 0], 1],), {"a": [1]}):
            told = repr(value)
            self.assertFalse(self.is_table(value))
            self.assertEqual(told, repr(value))


class MessageTest(Case):
    def is_message(self, value, values=2, some=(0, 1)):
        told = is_message(values, some, value)
        self.assertIsInstance(told, bool)
        return told

    def test_ordinary_messages(self):
        self.assertTrue(self.is_message((((0, 0), 1, 3), ((0, 1), 1, 1), ((1, 1), 1, 5))))
        self.assertTrue(self.is_message((((1, 0), 12, 205),)))

    def test_no_rows_and_the_empty_row(self):
        for values in (2, 3):
            for some in all_some():
                self.assertTrue(self.is_message((), values, some))
        self.assertTrue(self.is_message((((), 5, 0),), 2, ()))
        self.assertFalse(self.is_message((((), 5, 0), ((), 6, 0)), 2, ()))
        self.assertFalse(self.is_message((((), 5, 0),), 2, (0,)))
        self.assertFalse(self.is_message((((0,), 5, 0),), 2, ()))

    def test_all_rows_of_some_variables(self):
        for values in (2, 3):
            for some in all_some():
                message = tuple((row, 1000000, 10000) for row in all_rows(values, some))
                self.assertTrue(self.is_message(message, values, some))
                if some:
                    self.assertFalse(self.is_message(message[::-1], values, some))
                    self.assertFalse(self.is_message(message + message[-1:], values, some))

    def test_two_and_three_values(self):
        for values in (2, 3):
            for some in ((0,), (2, 5), (0, 1, 2, 3, 4, 5)):
                for at in range(len(some)):
                    for worth in (-1, 0, 1, 2, 3):
                        row = (0,) * at + (worth,) + (0,) * (len(some) - at - 1)
                        self.assertEqual(0 <= worth < values, self.is_message(((row, 1, 1),), values, some), row)

    def test_counts(self):
        for count in (-1, 0, 1, 2, 999999, 1000000, 1000001):
            self.assertEqual(1 <= count <= 1000000, self.is_message((((0, 0), count, 3),)), count)

    def test_costs(self):
        for least in (-1, 0, 1, 100, 101, 9999, 10000, 10001):
            self.assertEqual(0 <= least <= 10000, self.is_message((((0, 0), 1, least),)), least)

    def test_rows_ascend_and_are_different(self):
        for rows in itertools.product(all_rows(2, (0, 1)), repeat=3):
            ascending = rows[0] < rows[1] < rows[2]
            self.assertEqual(ascending, self.is_message(tuple((row, 1, 1) for row in rows)), rows)
        self.assertFalse(self.is_message((((0, 0), 1, 1), ((0, 0), 2, 1))))
        self.assertTrue(self.is_message((((0, 0), 9, 9), ((0, 1), 1, 0))))

    def test_other_kinds(self):
        for value in STRANGE + [0, [((0, 0), 1, 1)], ((0, 0), 1, 1)]:
            self.assertFalse(self.is_message(value), value)
        for item in STRANGE + [0, [(0, 0), 1, 1], ((0, 0), 1), ((0, 0), 1, 1, 1), ([0, 0], 1, 1), ((0,), 1, 1),
                               ((0, 0, 0), 1, 1), ((0, 0), True, 1), ((0, 0), 1, True), ((0, 0), 1, False),
                               ((0, 0), None, 1), ((0, 0), 1, None), ((0, 0), 1.0, 1), ((0, 0), 1, 1.0),
                               ((0, 0), "1", 1), ((0, False), 1, 1), ((True, 0), 1, 1), ((0, 1.0), 1, 1), (0, 1, 1),
                               (None, 1, 1), ("00", 1, 1)]:
            self.assertFalse(self.is_message((item,)), item)
            self.assertFalse(self.is_message((((0, 0), 1, 1), item)), item)
            self.assertFalse(self.is_message((item, ((1, 1), 1, 1))), item)


if __name__ == "__main__":
    unittest.main()
