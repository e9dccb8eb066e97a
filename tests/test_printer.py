"""[65]: MODELS and EXPRESSIONS written."""

import unittest
from random import Random

from tests.support import EXPRESSION, MODEL, X, check_calls, model_of
from tests.test_models import FALL, call, chain, some_expression
from truecourse.errors import BadText
from truecourse.models import is_model
from truecourse.parser import parse_expression, parse_model
from truecourse.printer import expression_text, model_text

Y, Z = ("name", "y"), ("name", "z")
TWO, HALF = ("number", (2, 1)), ("number", (1, 2))


def pair(word, one, other):
    return (word, one, other)


def read(text):
    """The expression, None where the text is none."""
    try:
        return parse_expression(text)
    except BadText:
        return None


class TestExpressionText(unittest.TestCase):
    def test_errors(self):
        check_calls(self, expression_text, [("expression", X, EXPRESSION)])

    def test_texts(self):
        total, product = pair("plus", X, Y), pair("times", X, Y)
        for expression, text in [
                (X, "x"), (TWO, "2"), (HALF, "1/2"), (("number", (0, 1)), "0"), (total, "x + y"),
                (pair("minus", X, Y), "x - y"), (product, "x * y"), (pair("over", X, Y), "x / y"), (("neg", X), "-x"),
                (("power", X, 2), "x^2"), (("power", X, 0), "x^0"), (call("exp", total), "exp(x + y)"),
                (pair("over", HALF, pair("plus", X, ("number", (1, 4)))), "1/2 / (x + 1/4)"),
                # Brackets that must not stand.
                (pair("plus", total, Z), "x + y + z"), (pair("minus", total, Z), "x + y - z"),
                (pair("times", product, Z), "x * y * z"), (pair("over", product, Z), "x * y / z"),
                (pair("plus", product, product), "x * y + x * y"), (pair("times", ("neg", X), ("neg", Y)), "-x * -y"),
                (pair("plus", ("neg", X), ("neg", Y)), "-x + -y"), (pair("minus", X, ("neg", Y)), "x - -y"),
                (("neg", ("neg", X)), "--x"), (("neg", ("power", X, 2)), "-x^2"), (("power", TWO, 3), "2^3"),
                (("power", HALF, 3), "1/2^3"), (("power", call("sin", X), 2), "sin(x)^2"),
                (pair("times", X, ("power", Y, 2)), "x * y^2"), (call("root", call("log", ("neg", X))), "root(log(-x))"),
                (pair("over", HALF, HALF), "1/2 / 1/2"), (pair("over", ("power", X, 2), TWO), "x^2 / 2"),
                # Brackets that must stand.
                (pair("plus", X, pair("plus", Y, Z)), "x + (y + z)"), (pair("plus", X, pair("minus", Y, Z)), "x + (y - z)"),
                (pair("minus", X, total), "x - (x + y)"), (pair("times", X, total), "x * (x + y)"),
                (pair("times", total, X), "(x + y) * x"), (pair("times", X, product), "x * (x * y)"),
                (pair("over", X, product), "x / (x * y)"), (pair("over", X, pair("over", Y, Z)), "x / (y / z)"),
                (("neg", total), "-(x + y)"), (("neg", product), "-(x * y)"), (("neg", pair("over", X, Y)), "-(x / y)"),
                (("power", ("neg", X), 2), "(-x)^2"), (("power", total, 2), "(x + y)^2"),
                (("power", product, 2), "(x * y)^2"), (("power", ("power", X, 2), 3), "(x^2)^3"),
                (pair("times", X, ("neg", total)), "x * -(x + y)")]:
            with self.subTest(text=text):
                self.assertEqual(expression_text(expression), text)
                self.assertEqual(parse_expression(text), expression)

    def test_brackets_are_needed(self):
        # Without any of the brackets the text is read as something else, or not at all.
        random = Random(65)
        for _ in range(200):
            expression = some_expression(random, 5)
            text = expression_text(expression)
            self.assertEqual(parse_expression(text), expression)
            for begin, end in brackets(text):
                less = text[:begin] + text[begin + 1:end] + text[end + 1:]
                self.assertNotEqual(read(less), expression, (text, less))

    def test_deep(self):
        self.assertEqual(expression_text(chain(30)), "-" * 29 + "x")

    def test_long_numbers(self):
        self.assertEqual(expression_text(("number", (10 ** 39, 7))), "1" + "0" * 39 + "/7")


def brackets(text):
    """The places of brackets that belong together, but those behind words."""
    waiting, found = [], []
    for place, character in enumerate(text):
        if character == "(":
            waiting.append(place)
        elif character == ")":
            begin = waiting.pop()
            if begin == 0 or not text[begin - 1].isalpha():
                found.append((begin, place))
    return found


class TestModelText(unittest.TestCase):
    def test_errors(self):
        check_calls(self, model_text, [("model", FALL, MODEL)])

    def test_texts(self):
        self.assertEqual(model_text(FALL), "given g = 9 to 10\nletter h = 1\nletter v = 0\nslope h = v\nslope v = -g\n")
        model = ("model", "t", (("b", (-3, 4), (-1, 2)), ("a", (0, 1), (0, 1))),
                 (("y", (-2, 1), (-2, 1), ("name", "t")), ("x", (-1, 1), (5, 3), pair("times", X, ("name", "a")))))
        self.assertEqual(model_text(model), "time t\ngiven b = -3/4 to -1/2\ngiven a = 0\nletter y = -2\n"
                                            "letter x = -1 to 5/3\nslope y = t\nslope x = x * a\n")
        self.assertEqual(model_text(model_of(X)), "letter x = 1\nslope x = x\n")

    def test_read_as_the_model(self):
        random = Random(66)
        for _ in range(60):
            slopes = [some_expression(random, 3) for _ in range(2)]
            ranges = [tuple(sorted(random.randint(-9, 9) for _ in range(2))) for _ in range(4)]
            begun = [((low, 1), (high, 1)) for low, high in ranges]
            model = ("model", random.choice([None, "t"]), (("a",) + begun[0], ("b",) + begun[1]),
                     (("x",) + begun[2] + (slopes[0],), ("y",) + begun[3] + (slopes[1],)))
            self.assertTrue(is_model(model))
            self.assertEqual(parse_model(model_text(model)), model)
