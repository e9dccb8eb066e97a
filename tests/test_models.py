"""[61], [62]: MODELS, EXPRESSIONS and their values."""

import unittest
from fractions import Fraction
from random import Random

from tests.courses import decimal
from tests.decimals import cosine, exp, log, sine
from tests.reference import ends, ratio
from tests.support import (
    BOXES, EXPRESSION, EXPRESSIONS, MODEL, MODELS, MOST, ONE, OTHERS, X, check_calls, model_of, refuses, too_many)
from truecourse.errors import InvalidBox, InvalidNames, NotThere
from truecourse.intervals import within
from truecourse.models import expression_value, is_expression, is_model, names_of

Y = ("name", "y")
U = ("number", (1, 1))
NOUGHT = ("number", (0, 1))
FALL = ("model", None, (("g", (9, 1), (10, 1)),),
        (("h", (1, 1), (1, 1), ("name", "v")), ("v", (0, 1), (0, 1), ("neg", ("name", "g")))))
# Known functions are told to seventy digits.
NEAR = Fraction(1, 10 ** 30)
WORDS = ("exp", "log", "sin", "cos", "root")


def number(value):
    return ("number", ratio(value))


def call(word, expression):
    return ("call", word, expression)


def chain(deep):
    """An expression so deep."""
    expression = X
    for _ in range(deep - 1):
        expression = ("neg", expression)
    return expression


def bush(many):
    """A flat expression with so many parts, an odd number."""
    if many == 1:
        return X
    left = (many - 1) // 2
    left -= 1 - left % 2
    return ("plus", bush(left), bush(many - 1 - left))


def parts(expression):
    return 1 + sum(parts(part) for part in expression[1:] if isinstance(part, tuple) and isinstance(part[0], str))


def some_expression(random, deep):
    word = random.choice(["number", "name", "name", "plus", "minus", "times", "over", "neg", "power", "call"])
    if deep == 0 or word in ("number", "name"):
        return random.choice([X, Y, number(Fraction(random.randint(0, 9), random.randint(1, 9)))])
    inner = some_expression(random, deep - 1)
    if word == "neg":
        return ("neg", inner)
    if word == "power":
        return ("power", inner, random.randint(0, 3))
    if word == "call":
        return call(random.choice(["sin", "cos", "exp", "root", "log"]), inner)
    return (word, inner, some_expression(random, deep - 1))


class TestExpressions(unittest.TestCase):
    def test_good(self):
        for value in [X, U, NOUGHT, number(Fraction(7, 3)), ("plus", X, U), ("minus", X, Y), ("times", U, U),
                      ("over", X, NOUGHT), ("neg", X), ("power", X, 0), ("power", ("neg", X), 8),
                      ("number", (10 ** 39, 1))] + [call(word, X) for word in WORDS]:
            self.assertIs(is_expression(value), True, value)

    def test_bad(self):
        for value in EXPRESSIONS:
            self.assertIs(is_expression(value), False, value)

    def test_sizes(self):
        self.assertEqual(parts(bush(199)), 199)
        for value, told in [(chain(30), True), (chain(31), False), (bush(199), True), (("neg", bush(199)), True),
                            (bush(201), False), (("plus", bush(199), X), False)]:
            self.assertIs(is_expression(value), told)
        shared = X
        for _ in range(29):
            shared = ("times", shared, shared)
        self.assertIs(is_expression(shared), False)
        self.assertIs(is_expression(chain(60)), False)


class TestModels(unittest.TestCase):
    def test_good(self):
        eight = ("model", "t", (("g", (-1, 2), (1, 2)),), tuple((c, (0, 1), (0, 1), Y) for c in "uvwxyz"))
        letters = ("model", None, (), tuple((c, (0, 1), (0, 1), ("name", "a")) for c in "abcdefgh"))
        for value in [FALL, model_of(X), model_of(X, "t"), eight, letters, model_of(("name", "t"), "t"),
                      model_of(chain(30)), model_of(("neg", bush(199)))]:
            self.assertIs(is_model(value), True)

    def test_bad(self):
        for value in MODELS:
            self.assertIs(is_model(value), False, value)
        for value in EXPRESSIONS:
            self.assertIs(is_model(model_of(value)), False, value)

    def test_sizes(self):
        self.assertIs(is_model(model_of(chain(31))), False)
        two = [("x", (1, 1), (1, 1)), ("y", (1, 1), (1, 1))]
        for one, other, told in [(bush(99), bush(101), True), (bush(101), ("neg", bush(99)), False),
                                 (bush(199), X, True), (bush(199), ("neg", X), False)]:
            model = ("model", None, (), (two[0] + (one,), two[1] + (other,)))
            self.assertIs(is_model(model), told)

    def test_eight_names(self):
        names = [("g", "h"), ("a", "b", "c", "d", "e")]
        givens = tuple((name, (1, 1), (1, 1)) for name in names[0])
        letters = tuple((name, (1, 1), (2, 1), U) for name in names[1])
        self.assertIs(is_model(("model", "t", givens, letters)), True)
        self.assertIs(is_model(("model", "t", givens, letters + (("f", (1, 1), (1, 1), U),))), False)
        self.assertIs(is_model(("model", None, givens, letters + (("f", (1, 1), (1, 1), U),))), True)

    def test_names_of(self):
        check_calls(self, names_of, [("model", FALL, MODEL)])
        self.assertEqual(names_of(FALL), ["h", "v", "g"])
        self.assertEqual(names_of(model_of(X, "t", (("b", (1, 1), (1, 1)), ("a", (1, 1), (1, 1))))), ["x", "b", "a", "t"])
        told = names_of(FALL)
        told.append("z")
        self.assertEqual(names_of(FALL), ["h", "v", "g"])


NAMES = (InvalidNames, OTHERS + [3, "x", (), [], ["x", "x"], ["x", 1], ["X", "x"], ["to", "x"], ["y"], ["x", True], ["x", None],
                                 ["y", "z"], {"x": 1}])


class TestValues(unittest.TestCase):
    def value(self, expression, *box):
        names = ["x", "y", "z"][:len(box)]
        return expression_value(expression, names, box)

    def test_errors(self):
        check_calls(self, expression_value, [
            ("expression", ("times", X, ("number", (1, 2))), EXPRESSION), ("names", ["x"], NAMES),
            ("box", ((2, 4),), (InvalidBox, BOXES + [((0, 1),) * 2]))])
        refuses(expression_value, InvalidNames, {"value": ["x"]}, ("plus", X, Y), ["x"], None)
        self.assertEqual(expression_value(U, ("a", "b"), ((0, 1), (0, 1))), (ONE, ONE))
        refuses(expression_value, InvalidBox, {"value": ()}, U, [], ())
        refuses(expression_value, InvalidBox, {"value": ((0, 1),) * 9}, U, list("abcdefghi"), ((0, 1),) * 9)

    def test_part_by_part(self):
        for expression, told in [
                (("times", X, ("number", (1, 2))), (1, 2)), (("plus", X, X), (4, 8)), (("minus", X, X), (-2, 2)),
                (("neg", X), (-4, -2)), (("power", X, 0), (ONE, ONE)), (("power", ("neg", X), 1), (-4, -2)),
                (number(Fraction(1, 3)), (ONE // 3, ONE // 3 + 1)), (("over", X, ("number", (2, 1))), (1, 2)),
                (("power", X, 2), (0, 1))]:
            self.assertTrue(within(told, self.value(expression, (2, 4))), expression)

    def test_values_are_held(self):
        random = Random(61)
        for k in range(120):
            expression = some_expression(random, 4)
            box = tuple(tuple(sorted(random.randint(-3 * ONE, 3 * ONE) for _ in range(2))) for _ in range(2))
            told = self.value_or_none(expression, box)
            for _ in range(4):
                point = [a + (b - a) * Fraction(random.randint(0, 5), 5) for a, b in map(ends, box)]
                own = self.number_of(expression, dict(zip("xy", point)))
                if told is not None:
                    self.assertIsNotNone(own)
                    self.assertTrue(told[0] - NEAR <= own * ONE <= told[1] + NEAR)

    def value_or_none(self, expression, box):
        try:
            return self.value(expression, *box)
        except NotThere:
            return None

    def number_of(self, expression, values):
        """The value at a point, None if there is none."""
        word = expression[0]
        if word == "number":
            return Fraction(*expression[1])
        if word == "name":
            return values[expression[1]]
        if word == "call":
            inner = self.number_of(expression[2], values)
            return None if inner is None else self.called(expression[1], inner)
        inner = [self.number_of(part, values) for part in expression[1:] if isinstance(part, tuple)]
        if None in inner or word == "over" and inner[1] == 0:
            return None
        return {"plus": lambda: inner[0] + inner[1], "minus": lambda: inner[0] - inner[1],
                "times": lambda: inner[0] * inner[1], "over": lambda: inner[0] / inner[1],
                "neg": lambda: -inner[0], "power": lambda: inner[0] ** expression[2]}[word]()

    def called(self, word, inner):
        if word == "root":
            return None if inner < 0 else Fraction(decimal(inner).sqrt())
        if word == "log" and not Fraction(1, 65536) <= inner <= 65536 or word == "exp" and abs(inner) > 16:
            return None
        if abs(inner) > 64 and word in ("sin", "cos"):
            return None
        own = {"exp": exp, "log": log, "sin": sine, "cos": cosine}[word]
        return Fraction(own(decimal(inner)))

    def test_not_there(self):
        across, above = (-ONE, ONE), (ONE, 2 * ONE)
        for expression, interval in [
                (("over", U, X), across), (("over", U, X), (0, ONE)), (("over", U, X), (-ONE, 0)), (("over", U, NOUGHT), above),
                (call("log", X), across), (call("log", X), (2 ** 24 - 1, ONE)), (call("log", X), (ONE, 2 ** 56 + 1)),
                (call("exp", X), (0, 16 * ONE + 1)), (call("exp", X), (-16 * ONE - 1, 0)), (call("root", X), (-1, 5)),
                (call("sin", X), (0, 64 * ONE + 1)), (call("cos", X), (-64 * ONE - 1, 0)),
                # What stands in it counts, whatever becomes of it; and what intervals do not rule out.
                (("times", NOUGHT, ("over", U, X)), across), (("power", ("over", U, X), 0), across),
                (("over", U, ("minus", X, X)), above), (("over", U, number(Fraction(1, 10 ** 20))), above),
                (("over", U, ("minus", ("plus", X, U), X)), (ONE, 3 * ONE)),
                (("over", NOUGHT, ("over", X, X)), across)]:
            names = ["x"]
            refuses(expression_value, NotThere, {}, expression, names, (interval,))
        for expression, interval in [
                (("over", U, X), (2 ** 10, ONE)), (("over", U, X), (-ONE, -2 ** 10)), (call("log", X), (2 ** 24, 2 ** 56)),
                (call("exp", X), (-16 * ONE, 16 * ONE)), (call("root", X), (0, 5)), (call("sin", X), (-64 * ONE, 64 * ONE))]:
            self.value(expression, interval)

    def test_grains(self):
        names = ["x"]
        for expression, interval in [
                (("plus", X, X), (0, MOST // 2 + 1)), (("times", X, X), (0, 2 ** 55 + 1)), (("power", X, 2), (0, 2 ** 55 + 1)),
                (("over", U, X), (2 ** 10 - 1, ONE)), (number(2 ** 30 + 1), (0, 1)), (("minus", NOUGHT, ("times", X, number(2))), (-MOST, 0))]:
            too_many(expression_value, "grains", MOST, expression, names, (interval,))
        self.assertEqual(self.value(("plus", X, X), (0, MOST // 2)), (0, MOST))
        self.assertEqual(self.value(("neg", X), (-MOST, MOST)), (-MOST, MOST))
        self.assertEqual(self.value(number(2 ** 30), (0, 1)), (MOST, MOST))
