"""[63], [64]: MODELS and EXPRESSIONS read from texts."""

import unittest
from fractions import Fraction
from random import Random

from tests.reference import ratio
from tests.support import TEXT, X, check_calls, model_of, refuses, too_many
from tests.test_models import FALL, chain, bush, parts
from truecourse.errors import BadText
from truecourse.models import is_expression, is_model
from truecourse.parser import parse_expression, parse_model
from truecourse.printer import expression_text
from truecourse.tokens import tokens_of

Y = ("name", "y")
FALL_TEXT = "letter h = 1\nslope h = v # speed\nletter v = 0\ngiven g = 9 to 10\nslope v = -g"


def num(number):
    return ("number", ratio(Fraction(number)))


def call(word, expression):
    return ("call", word, expression)


class Fault(Exception):
    pass


class Reader:
    """The grammar of the document, one function for each of its words."""

    def __init__(self, text):
        self.tokens = tokens_of(text)
        self.at = 0

    def take(self, *wanted):
        kind, text, place = self.tokens[self.at]
        if kind not in wanted and text not in wanted:
            raise Fault(place)
        self.at += 1
        return text

    def stands(self, *signs):
        kind, text, _ = self.tokens[self.at]
        return kind == "sign" and text in signs

    def whole(self):
        told = self.sum()
        if self.tokens[self.at][0] != "end":
            raise Fault(self.tokens[self.at][2])
        return told

    def sum(self):
        told = self.product()
        while self.stands("+", "-"):
            word = {"+": "plus", "-": "minus"}[self.take("sign")]
            told = (word, told, self.product())
        return told

    def product(self):
        told = self.signed()
        while self.stands("*", "/"):
            word = {"*": "times", "/": "over"}[self.take("sign")]
            told = (word, told, self.signed())
        return told

    def signed(self):
        if self.stands("-"):
            self.take("-")
            return ("neg", self.signed())
        told = self.atom()
        if self.stands("^"):
            self.take("^")
            place = self.tokens[self.at][2]
            number = Fraction(self.take("number"))
            if number.denominator != 1 or number > 8:
                raise Fault(place)
            return ("power", told, int(number))
        return told

    def atom(self):
        kind, text, place = self.tokens[self.at]
        if kind == "number":
            return num(self.take("number"))
        if kind == "name":
            return ("name", self.take("name"))
        if self.stands("("):
            self.take("(")
            told = self.sum()
        else:
            word = self.take("exp", "log", "sin", "cos", "root")
            self.take("(")
            told = call(word, self.sum())
        if not self.stands(")"):
            raise Fault(self.tokens[self.at][2])
        self.take(")")
        return told


class TestExpressionTexts(unittest.TestCase):
    def test_errors(self):
        check_calls(self, parse_expression, [("text", "x + 1", TEXT)])
        check_calls(self, parse_model, [("text", FALL_TEXT, TEXT)])

    def test_read(self):
        for text, told in [
                ("x", X), ("3", num(3)), ("3/4", num("3/4")), ("4/2", num(2)), ("0.25", num("1/4")), ("0/7", num(0)),
                ("2.50", num("5/2")), ("x^2", ("power", X, 2)), ("x^2.0", ("power", X, 2)), ("x^4/2", ("power", X, 2)),
                ("x^0", ("power", X, 0)), ("x^8", ("power", X, 8)), ("x ^ 0/3", ("power", X, 0)),
                ("-x^2", ("neg", ("power", X, 2))), ("--x", ("neg", ("neg", X))), ("2*-x^2", ("times", num(2), ("neg", ("power", X, 2)))),
                ("1/2", num("1/2")), ("1 / 2", ("over", num(1), num(2))), ("1/ 2", ("over", num(1), num(2))),
                ("1/2/3", ("over", num("1/2"), num(3))), ("1 /2/3", ("over", num(1), num("2/3"))),
                ("x + y - x", ("minus", ("plus", X, Y), X)), ("x + y * x", ("plus", X, ("times", Y, X))),
                ("x + y / x", ("plus", X, ("over", Y, X))), ("x - y / x * y", ("minus", X, ("times", ("over", Y, X), Y))),
                ("x - -y / x + y", ("plus", ("minus", X, ("over", ("neg", Y), X)), Y)), ("(x + y / x)", ("plus", X, ("over", Y, X))),
                ("x * y / x", ("over", ("times", X, Y), X)), ("x - (y - x)", ("minus", X, ("minus", Y, X))),
                ("-x * y", ("times", ("neg", X), Y)), ("-(x * y)", ("neg", ("times", X, Y))), ("- - x", ("neg", ("neg", X))),
                ("exp(0.5)", call("exp", num("1/2"))), ("sin (x) ^ 2", ("power", call("sin", X), 2)),
                ("((x))", X), ("(x)^2", ("power", X, 2)), ("(x^2)^3", ("power", ("power", X, 2), 3)),
                ("root(log(cos(x)))", call("root", call("log", call("cos", X)))), ("3^2", ("power", num(3), 2)),
                ("1/2^2", ("power", num("1/2"), 2)), ("x+-y", ("plus", X, ("neg", Y))), ("  x  ", X),
                ("\n\n # only a remark\n x # more\n\n", X), ("x#+y", X), ("q1 * x12", ("times", ("name", "q1"), ("name", "x12")))]:
            with self.subTest(text=text):
                self.assertEqual(parse_expression(text), told)
                self.assertIs(is_expression(told), True)

    def test_wrong_places(self):
        for text, place in [
                ("", 0), ("   ", 3), ("# x", 3), ("\n\n", 2), ("x\ny", 2), ("x\n\n  y", 5), ("+x", 0), ("x +", 3), ("x + # y", 7),
                ("x +\ny", 3), ("x y", 2), ("x 2", 2), ("2 x", 2), ("(x", 2), ("(x\n)", 2), ("x)", 1), ("()", 1), ("exp x", 4),
                ("exp", 3), ("exp()", 4), ("x(y)", 1), ("2(x)", 1), ("x^y", 2), ("x^9", 2), ("x^1/2", 2), ("x^-1", 2), ("x^", 2),
                ("x^2^2", 3), ("x^(2)", 2), ("x * * y", 4), ("x * + y", 4), ("letter", 0), ("x + to", 4), ("slope + x", 0),
                ("x = y", 2), ("x + $", 4), ("x + X", 4), ("x )$", 3), ("x ) ($", 5), ("((x)", 4), ("(x))", 3), ("exp(x", 5),
                ("exp((x)", 7), ("x, y", 1), ("-", 1), ("(-)", 2), ("time", 0), ("x\n\n)", 3), ("x^2.5", 2), ("x^10", 2),
                ("3/0", 2), ("x ^ 3/ 4 ^", 10)]:
            with self.subTest(text=text):
                if text == "3/0":
                    # Behind the number 3 and the sign / another number stands.
                    self.assertEqual(parse_expression(text), ("over", num(3), num(0)))
                else:
                    refuses(parse_expression, BadText, {"position": place}, text)

    def test_against_the_grammar(self):
        random = Random(63)
        words = ["x", "y", "2", "1/3", "+", "-", "*", "/", "(", ")", "^", "2", "exp", "sin", "to", "="]
        weights = [6, 4, 4, 2, 3, 4, 3, 2, 5, 6, 3, 4, 2, 1, 1, 1]
        read = 0
        for _ in range(4000):
            text = " ".join(random.choices(words, weights, k=random.randint(1, 9)))
            try:
                told = Reader(text).whole()
            except Fault as fault:
                refuses(parse_expression, BadText, {"position": fault.args[0]}, text)
            else:
                read += 1
                self.assertEqual(parse_expression(text), told, text)
        self.assertGreater(read, 100)

    def test_digits(self):
        for text in ["1" * 20, "1234567890/1234567891", "0." + "1" * 19]:
            self.assertEqual(parse_expression(text), num(text))
        refuses(parse_expression, BadText, {"position": 4}, "x + " + "1" * 21)
        refuses(parse_expression, BadText, {"position": 0}, "12345678901/1234567890")

    def test_sizes(self):
        self.assertEqual(parse_expression("-" * 29 + "x"), chain(30))
        self.assertEqual(parse_expression("-" * 29 + "1")[0], "neg")
        for last in ("x", "1"):
            too_many(parse_expression, "depth", 30, "-" * 30 + last)
        numbers = "(" + " + ".join(["(1 + 2 + 3 + 4 + 5)"] * 20) + ")"
        self.assertEqual(parts(parse_expression("-" + numbers)), 200)
        too_many(parse_expression, "parts", 200, "--" + numbers)
        self.assertEqual(parse_expression(expression_text(bush(199))), bush(199))
        self.assertEqual(parts(parse_expression("-(" + expression_text(bush(199)) + ")")), 200)
        too_many(parse_expression, "parts", 200, expression_text(bush(101)) + "+ (" + expression_text(bush(99)) + ")")
        # Where there are too many parts and too deep ones, parts come first; and wrong places ahead.
        too_many(parse_expression, "parts", 200, "-" * 200 + "x")
        refuses(parse_expression, BadText, {"position": 502}, "-" * 500 + "x ?")
        refuses(parse_expression, BadText, {"position": 500}, "-" * 500)

    def test_long_texts(self):
        self.assertEqual(parse_expression("(" * 9000 + "x" + ")" * 9000), X)
        refuses(parse_expression, BadText, {"position": 20000}, "(" * 20000)
        refuses(parse_expression, BadText, {"position": 18001}, "(" * 9000 + "x" + ")" * 9001)
        too_many(parse_expression, "parts", 200, "exp(" * 4000 + "x" + ")" * 4000)
        too_many(parse_expression, "parts", 200, "-" * 19000 + "x")
        too_many(parse_expression, "parts", 200, "x" + " + x" * 4000)


class TestModelTexts(unittest.TestCase):
    def test_read(self):
        self.assertEqual(parse_model(FALL_TEXT), FALL)
        self.assertEqual(parse_model("slope x = x\nletter x = 1"), model_of(X))
        told = parse_model("  \n# a remark\ntime t # more\n given g=-3/4 to -0.5\ngiven k = -0\nslope y = t*g\nslope x = -k^2\n"
                           "letter x = -1 to 2.0\nletter y = 6/4\n\n")
        self.assertEqual(told, ("model", "t", (("g", (-3, 4), (-1, 2)), ("k", (0, 1), (0, 1))), (
            ("x", (-1, 1), (2, 1), ("neg", ("power", ("name", "k"), 2))),
            ("y", (3, 2), (3, 2), ("times", ("name", "t"), ("name", "g"))))))
        self.assertIs(is_model(told), True)
        self.assertEqual(parse_model("letter x = 2 to 2\nslope x = 1"), ("model", None, (), (("x", (2, 1), (2, 1), num(1)),)))

    def test_tokens_come_first(self):
        for text, place in [("letter x = 1\nslope x = x $", 25), ("letter letter\n ?", 15), ("letter x = 1 to 0\nslope X = x", 24),
                            ("slope\n00", 6), ("letter x = 1\nslope x = 3x", 23)]:
            refuses(parse_model, BadText, {"position": place}, text)

    def test_rows(self):
        for text, place in [
                ("x = 1", 0), ("letter", 6), ("letter 3", 7), ("letter to = 1", 7), ("letter x", 8), ("letter x 1", 9),
                ("letter x =", 10), ("letter x = y", 11), ("letter x = -", 12), ("letter x = --1", 12), ("letter x = 1 2", 13),
                ("letter x = 1 to", 15), ("letter x = 1 to y", 16), ("letter x = 1 to 2 to 3", 18), ("letter x = 1/2/3", 14),
                ("letter x = (1)", 11), ("given g = 1 + 1", 12), ("given g = -1 to - 1 - 1", 20), ("given", 5), ("time", 4),
                ("time 3", 5), ("time t 3", 7), ("time t = 0", 7), ("time t\ntime s", 7), ("time t\ntime", 7), ("time t\n\n time t", 9),
                ("slope", 5), ("slope x", 7), ("slope x x", 8), ("slope x =", 9), ("slope x = ", 10), ("slope x = #", 11), ("slope x = x +\n", 13),
                ("slope x = (x\n)", 12), ("slope x = x letter", 12), ("exp(x)", 0), ("= 1", 0), ("3", 0), ("to 3", 0),
                ("letter x = 1\nslope x = x\nx", 25), ("letter x = 1 # remark\nslope x = = 1", 32), ("letter x\n= 1", 8),
                ("letter x = 1 given g = 1", 13), ("slope x = x^9", 12), ("slope x = x^3/2", 12)]:
            with self.subTest(text=text):
                refuses(parse_model, BadText, {"position": place}, text)

    def test_names_and_ranges(self):
        begin = "letter x = 1\nslope x = x\n"
        for text, place in [
                (begin + "letter x = 2", 32), (begin + "given x = 2", 31), (begin + "time x", 30), ("time x\n" + begin, 14),
                (begin + "given g = 1\ngiven g = 1", 43), (begin + "given g = 1\ntime g", 42),
                (begin + "slope x = 1", 31), (begin + "slope y = 1", 31), (begin + "time t\nslope t = 1", 38),
                (begin + "given g = 1\nslope g = 1", 43), ("letter x = 1\nslope x = y", 23), ("letter x = 1\nslope x = 1 + x * zz", 31),
                ("letter x = 1 to 0\nslope x = x", 13), (begin + "given g = 1/3 to 0.3", 39), ("letter x = -1 to -2\nslope x = 1", 14),
                (begin + "given g = -1 to - 1", None), (begin + "given y = 1\nslope x = y", 43)]:
            with self.subTest(text=text):
                if place is None:
                    parse_model(text)
                else:
                    refuses(parse_model, BadText, {"position": place}, text)

    def test_least_place(self):
        """Several faults come together: those of rows ahead of the others, of these the least."""
        for text, place in [
                ("slope x = y\nletter x = 1 to 0\nletter x = 1", 10), ("letter x = 1 to 0\nslope x = y\nslope x = y", 13),
                ("slope y = z", 6), ("slope x = z\nslope x = x", 6), ("letter x = 1\nletter x = 1 to 0\nslope x = z\nslope q = 1", 20),
                ("given g = 2 to 1\nslope g = g", 12), ("slope x = 1\nslope x = 1\nletter x = 1", 18),
                ("letter x = 1 to 0\nslope x = x x", 30), ("slope x = zz\nletter x = 1 letter", 26),
                ("letter x = 1 to 0\nslope x = x x ?", 32), ("letter x = 1\nletter y = 1\nslope x = z", 36),
                # A name told before and behind: its slope is one of a letter, its second place is wrong.
                ("slope x = 1\ngiven x = 1\nletter x = 1", 31)]:
            with self.subTest(text=text):
                refuses(parse_model, BadText, {"position": place}, text)

    def test_what_lacks(self):
        for text in ["", " ", "\n", "# nothing", "time t", "given g = 1\n", "letter x = 1", "letter x = 1\nletter y = 2\nslope y = 1\n  ",
                     "letter x = 1\n# slope x = 1"]:
            refuses(parse_model, BadText, {"position": len(text)}, text)

    def test_sizes(self):
        rows = [f"letter {name} = 1\nslope {name} = 1\n" for name in "abcdefghi"]
        self.assertEqual(len(parse_model("".join(rows[:8]))[3]), 8)
        too_many(parse_model, "letters", 8, "".join(rows))
        too_many(parse_model, "letters", 8, "".join(rows[:7]) + "time t\ngiven w = 1")
        self.assertEqual(len(parse_model("".join(rows[:6]) + "time t\ngiven w = 1")[3]), 6)
        flat, deep = expression_text(bush(199)), "-" * 30 + "1"
        self.assertIs(is_model(parse_model(f"letter x = 1\nslope x = -({flat})")), True)
        too_many(parse_model, "parts", 200, f"letter x = 1\nletter y = 1\nslope x = -({flat})\nslope y = 1")
        too_many(parse_model, "depth", 30, f"letter x = 1\nslope x = {deep}")
        self.assertIs(is_model(parse_model(f"letter x = 1\nslope x = {deep[1:]}")), True)
        # Letters ahead of parts, parts ahead of depth, wrong places ahead of all.
        too_many(parse_model, "letters", 8, "".join(rows[:8]) + f"letter x = 1\nslope x = {flat} + {deep}")
        too_many(parse_model, "parts", 200, f"letter x = 1\nslope x = {flat} + {deep}")
        long = "".join(rows) + f"letter x = 1\nslope x = {flat} + {deep}\nslope x = 1"
        refuses(parse_model, BadText, {"position": len(long) - 5}, long)

    def test_long_numbers(self):
        self.assertEqual(parse_model("letter x = -" + "9" * 20 + "\nslope x = 1")[3][0][1], (1 - 10 ** 20, 1))
        refuses(parse_model, BadText, {"position": 11}, "letter x = " + "9" * 21 + "\nslope x = 1")
