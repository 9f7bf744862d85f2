"""Points 1 to 8, 107, 108 and 116 as far as they speak of tabletalk.scanning: tokens, their columns and problems."""

import re

from tabletalk.errors import BadValue, TextError
from tabletalk.scanning import scan
from tests.support import STRANGE, Case, Numbers

WRONG_TEXTS = [value for value in STRANGE if not isinstance(value, str)] + [
    0, (), b"0", ["0"], ("0",), " " * 2001, "0" * 2001, "\n", "0\n", "\n0", "0 \n 0", "?\n", "a" * 2001,
    " " * 2000 + "\n"]


def end(column):
    return "end", "", column


def plain_scan(text):
    """Point 108 by regular expressions: the tokens, or the pair of the column and the words of the first problem."""
    found = []
    for match in re.finditer("[0-9]+|[^ ]", text):
        column, characters = match.start() + 1, match.group()
        if re.fullmatch("[0-9]+", characters):
            if len(characters) > 6:
                return column, "a number has at most 6 digits"
            found.append(("number", characters, column))
        elif characters in list(":,;-="):
            found.append(("sign", characters, column))
        else:
            return column, "no token begins here"
    return found + [end(len(text) + 1)]


class ScanTest(Case):
    def assert_problem(self, column, words, text):
        with self.assertRaises(TextError) as caught:
            scan(text)
        self.assertIs(TextError, caught.exception.__class__)
        self.assert_same((column, words), (caught.exception.column, caught.exception.words))

    def test_ordinary(self):
        told = self.assert_leaves_arguments(scan, "2: 0 1, 1; 0-1")
        self.assert_same([
            ("number", "2", 1), ("sign", ":", 2), ("number", "0", 4), ("number", "1", 6), ("sign", ",", 7),
            ("number", "1", 9), ("sign", ";", 10), ("number", "0", 12), ("sign", "-", 13), ("number", "1", 14),
            end(15)], told)
        self.assert_same([("number", "0", 1), ("sign", "=", 3), ("number", "100", 5), end(8)], scan("0 = 100"))

    def test_nothing_and_blanks(self):
        self.assert_same([end(1)], scan(""))
        self.assert_same([end(2)], scan(" "))
        self.assert_same([end(2001)], scan(" " * 2000))
        self.assert_same([("sign", ":", 3), end(6)], scan("  :  "))

    def test_signs(self):
        for sign in ":,;-=":
            self.assert_same([("sign", sign, 1), end(2)], scan(sign))
        signs = "::,,;;--=="
        self.assert_same([("sign", sign, at) for at, sign in enumerate(signs, 1)] + [end(11)], scan(signs))

    def test_numbers(self):
        self.assert_same([("number", "01234", 1), end(6)], scan("01234"))
        self.assert_same([("number", "56789", 1), ("number", "0", 7), end(8)], scan("56789 0"))
        self.assert_same([("number", "12", 1), end(3)], scan("12"))
        self.assert_same([("number", "1", 1), ("number", "2", 3), end(4)], scan("1 2"))
        self.assert_same([("number", "000000", 1), end(7)], scan("000000"))
        self.assert_same([("number", "999999", 2), ("sign", "-", 8), ("number", "1", 9), end(10)], scan(" 999999-1"))
        self.assert_same([("number", "123456", 1), ("number", "7", 8), end(9)], scan("123456 7"))

    def test_numbers_of_seven_digits(self):
        for text in ("1234567", "0000000", "1" * 2000, "1234567 8", "1234567?", "1234567 ?"):
            self.assert_problem(1, "a number has at most 6 digits", text)
        self.assert_problem(4, "a number has at most 6 digits", "2: 0000001, 1; 0-1")
        self.assert_problem(1994, "a number has at most 6 digits", " " * 1993 + "1234567")

    def test_no_token(self):
        strange = ("?", "a", "Z", "_", ".", "+", "*", "\"", "'", "(", "\t", "\r", "\v", "\f", "\0", "\x1c", "\x85",
                   "\xa0", "\u2028", "\u2212", "\u0660", "\u00b2", "\u0966", "\uff11", "\U0001d7ce", "\u3000",
                   "\ud800", "/")
        for character in strange:
            self.assert_problem(1, "no token begins here", character)
            self.assert_problem(3, "no token begins here", "0 " + character)
            self.assert_problem(2, "no token begins here", "0" + character + "1")
            self.assert_problem(7, "no token begins here", "123456" + character)
            self.assert_problem(2000, "no token begins here", " " * 1999 + character)

    def test_all_other_characters_of_one_byte(self):
        for number in range(256):
            if chr(number) not in " \n0123456789:,;-=":
                self.assert_problem(1, "no token begins here", chr(number))
                self.assert_problem(2, "no token begins here", "0" + chr(number))

    def test_two_problems(self):
        self.assert_problem(1, "no token begins here", "?1234567")
        self.assert_problem(1, "a number has at most 6 digits", "1234567 ?")
        self.assert_problem(3, "no token begins here", "0 ab")
        self.assert_problem(2, "a number has at most 6 digits", ":1234567 7654321")

    def test_as_many_characters_as_can_be(self):
        self.assert_same([("number", "5", 2000), end(2001)], scan(" " * 1999 + "5"))
        self.assert_same(2001, len(scan(":" * 2000)))
        self.assert_same([("number", "0", at) for at in range(1, 2000, 2)] + [end(2001)], scan("0 " * 1000))

    def test_by_the_words_of_the_document(self):
        numbers = Numbers(108)
        seen = set()
        for _ in range(3000):
            text = "".join(numbers.among("0123456789012345678901234567890123456789:,;-=    ?\t")
                           for _ in range(numbers.below(24)))
            right = plain_scan(text)
            if isinstance(right, list):
                self.assert_same(right, scan(text))
                seen.add(len(right))
            else:
                self.assert_problem(*right, text)
                seen.add(right)
        self.assertLess(30, len(seen))

    def test_a_returned_list_is_not_used_again(self):
        scan("2: 0").clear()
        self.assert_same(4, len(scan("2: 0")))

    def test_wrong_arguments(self):
        self.assert_refuses(scan, ("0",), [("text", WRONG_TEXTS)])
        # What is no text has no tokens, whatever stands in it.
        self.assert_raises_with(BadValue, "name", "text", scan, "?\n1234567")


class TextErrorTest(Case):
    def test_attributes(self):
        error = TextError(3, "no token begins here")
        self.assert_same((3, "no token begins here"), (error.column, error.words))
        self.assertIsInstance(error, ValueError)
