"""Point 8 and the interface of tabletalk.errors."""

import unittest

from tabletalk import errors
from tabletalk.errors import BadValue, NotPossible, TableError, TextError, TooLarge

BELOW = [BadValue, TooLarge, NotPossible, TextError]


class ErrorsTest(unittest.TestCase):
    def test_table_error_is_a_value_error(self):
        self.assertTrue(issubclass(TableError, ValueError))
        for error in BELOW:
            self.assertTrue(issubclass(error, TableError))

    def test_no_class_below_is_a_subclass_of_another_one(self):
        for one in BELOW:
            self.assertIsNot(one, TableError)
            for other in BELOW:
                self.assertEqual(one is other, issubclass(one, other))

    def test_attributes(self):
        self.assertEqual("table", BadValue("table").name)
        self.assertEqual("message", TooLarge("message").what)
        self.assertEqual("rows", NotPossible("rows").why)
        error = TextError(6, "variables ascend")
        self.assertEqual((6, "variables ascend"), (error.column, error.words))

    def test_attributes_by_keyword(self):
        self.assertEqual("a", BadValue(name="a").name)
        self.assertEqual("a", TooLarge(what="a").what)
        self.assertEqual("a", NotPossible(why="a").why)
        self.assertEqual(("a", 1), (TextError(words="a", column=1).words, TextError(column=1, words="a").column))

    def test_the_message_tells_the_attribute(self):
        self.assertEqual(["a", "b", "c"], [str(BadValue("a")), str(TooLarge("b")), str(NotPossible("c"))])

    def test_defined_in_their_file(self):
        for error in BELOW + [TableError]:
            self.assertEqual("tabletalk.errors", error.__module__)
            self.assertIs(error, getattr(errors, error.__name__))


if __name__ == "__main__":
    unittest.main()
