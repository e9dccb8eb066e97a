"""[63], [64]: tokens."""

import unittest

from tests.support import TEXT, check_calls, refuses
from truecourse.errors import BadText
from truecourse.tokens import tokens_of

WORDS = ["letter", "slope", "given", "time", "to", "exp", "log", "sin", "cos", "root"]


def kinds(text):
    """Kinds and texts of the tokens, without the last end."""
    told = [token[:2] for token in tokens_of(text)]
    assert told[-1] == ("end", "")
    return told[:-1]


class TestTokens(unittest.TestCase):
    def test_errors(self):
        check_calls(self, tokens_of, [("text", "x", TEXT)])

    def test_rows(self):
        self.assertEqual(tokens_of(""), [("end", "", 0)])
        self.assertEqual(tokens_of("  "), [("end", "", 2)])
        self.assertEqual(tokens_of("# x $ \n"), [("end", "", 6), ("end", "", 7)])
        self.assertEqual(tokens_of("\n\nx#"), [
            ("end", "", 0), ("end", "", 1), ("name", "x", 2), ("end", "", 4)])
        self.assertEqual(tokens_of("x1 =-3/4#\n2.50"), [
            ("name", "x1", 0), ("sign", "=", 3), ("sign", "-", 4), ("number", "3/4", 5),
            ("end", "", 9), ("number", "2.50", 10), ("end", "", 14)])
        self.assertEqual(tokens_of("a#b\nc"), [
            ("name", "a", 0), ("end", "", 3), ("name", "c", 4), ("end", "", 5)])

    def test_kinds(self):
        for word in WORDS:
            self.assertEqual(kinds(word), [("word", word)])
            self.assertEqual(kinds(word + "1"), [("name", word + "1")])
        for sign in "+-*/^()=":
            self.assertEqual(kinds(sign), [("sign", sign)])
        for name in ["x", "q1", "abcdefghijkl", "a23456789012"]:
            self.assertEqual(kinds(name), [("name", name)])
        for number in ["0", "7", "10", "3/4", "0/5", "0.25", "2.50", "0.0", "10.000", "1" * 20,
                       "1234567890/1234567890", "1." + "0" * 19, "0." + "1" * 19]:
            self.assertEqual(kinds(number), [("number", number)])

    def test_longest_number(self):
        self.assertEqual(kinds("3/x"), [("number", "3"), ("sign", "/"), ("name", "x")])
        self.assertEqual(kinds("3/ 4"), [("number", "3"), ("sign", "/"), ("number", "4")])
        self.assertEqual(kinds("3 /4"), [("number", "3"), ("sign", "/"), ("number", "4")])
        self.assertEqual(kinds("3/0"), [("number", "3"), ("sign", "/"), ("number", "0")])
        self.assertEqual(kinds("1/2/3"), [("number", "1/2"), ("sign", "/"), ("number", "3")])
        self.assertEqual(kinds("0.5/2"), [("number", "0.5"), ("sign", "/"), ("number", "2")])
        self.assertEqual(kinds("3/"), [("number", "3"), ("sign", "/")])
        long = "1" * 20
        self.assertEqual(kinds(long + "/5"), [("number", long), ("sign", "/"), ("number", "5")])
        self.assertEqual(kinds("x^2*(y)"), [
            ("name", "x"), ("sign", "^"), ("number", "2"), ("sign", "*"), ("sign", "("),
            ("name", "y"), ("sign", ")")])
        self.assertEqual(kinds("x-1"), [("name", "x"), ("sign", "-"), ("number", "1")])

    def test_faults(self):
        faults = {
            "$": 0, "x $": 2, "X": 0, "xY": 0, "letterX": 0, "a234567890123": 0, "x\ny ?": 4,
            "00": 0, "01": 0, "x 007": 2, "3/04": 2, "3/00": 2, "3/0.5/07": 6, "3.": 1, "3.x": 1,
            ".5": 0, "1.5.2": 3, "1/2.5": 3, "2x": 0, "2.5x": 0, "3/4x": 0, "3X": 0, "1" * 21: 0,
            "1." + "0" * 20: 0, "12345678901/1234567890": 0, "12345678901/123456789x": 0,
            "1" * 20 + ".5": 20, "x_1": 1, "x, y": 1, "a\tb": 1, "x = 1;": 5, "3/0x": 2,
            "abcdefghijklm": 0, "1e5": 0, "0x": 0, "00.5": 0, "x'": 1}
        for text, position in faults.items():
            with self.subTest(text=text):
                refuses(tokens_of, BadText, {"position": position}, text)

    def test_long_texts(self):
        text = "x + 1\n" * 3000
        told = tokens_of(text)
        self.assertEqual(len(told), 12001)
        self.assertEqual(told[-1], ("end", "", 18000))
