"""[66], [67]: flat systems."""

import unittest
from fractions import Fraction
from random import Random

from tests.courses import decimal
from tests.decimals import cosine, exp, log, sine
from tests.reference import some_poly, value
from tests.support import MODEL, MOST, ONE, X, check_calls, model_of, refuses, too_many
from tests.test_models import FALL, call, number, some_expression
from truecourse.errors import LimitError, NotThere
from truecourse.flattening import flattened
from truecourse.intervals import over, within
from truecourse.models import expression_value
from truecourse.parser import parse_expression, parse_model
from truecourse.polys import is_poly, is_system
from truecourse.polytexts import parse_poly, poly_text
from truecourse.roots import over_of

NEAR = Fraction(1, 10 ** 30)


def flat_of(slope, *rows, low="1", high="2"):
    """The flat system of a model with the letter x."""
    return flattened(parse_model("\n".join((f"letter x = {low} to {high}", f"slope x = {slope}") + rows)))


def slopes(flat):
    _, names, polys = flat[1]
    return {name: poly_text(poly, names) for name, poly in zip(names, polys)}


def ties(flat):
    return [poly_text(tie, flat[1][1]) for tie in flat[3]]


def canonical(text, flat):
    names = flat[1][1]
    return poly_text(parse_poly(text, names), names)


def check_form(test, flat):
    word, system, box, told = flat
    test.assertEqual(word, "flat")
    test.assertTrue(is_system(system))
    test.assertEqual(len(box), len(system[1]))
    test.assertTrue(isinstance(box, tuple) and isinstance(told, tuple))
    for tie in told:
        test.assertTrue(is_poly(len(system[1]), tie))


class TestLetters(unittest.TestCase):
    def check(self, flat, told_slopes, told_ties):
        check_form(self, flat)
        self.assertEqual(slopes(flat), {name: canonical(text, flat) for name, text in told_slopes.items()})
        self.assertEqual(ties(flat), [canonical(text, flat) for text in told_ties])

    def test_errors(self):
        check_calls(self, flattened, [("model", FALL, MODEL)])

    def test_sequence(self):
        flat = flattened(parse_model("time t\ngiven b = -1 to 1/3\nletter y = 2\nletter x = 0 to 1\ngiven a = 5\n"
                                     "slope x = a * t\nslope y = x + b"))
        self.assertEqual(flat[1][1], ("y", "x", "b", "a", "t"))
        self.check(flat, {"y": "x + b", "x": "a*t", "b": "0", "a": "0", "t": "1"}, [])
        third = ONE // 3
        self.assertEqual(flat[2], ((2 * ONE, 2 * ONE), (0, ONE), (-ONE, third + 1), (5 * ONE, 5 * ONE), (0, 0)))

    def test_polys(self):
        for text, poly in [
                ("x + x", "2*x"), ("x - x", "0"), ("-(x + 1)", "-1 - x"), ("(x + 1)^2", "1 + 2*x + x^2"), ("x^0", "1"),
                ("(x - x)^0", "1"), ("(x - x)^3", "0"), ("x / 4 + x", "5/4*x"), ("x / (2 - 4)", "-1/2*x"), ("3 / (1/2)", "6"),
                ("x / (x - x + 3)", "1/3*x"), ("(x + 1) * (x - 1)", "x^2 - 1"), ("(x - x) * x", "0"), ("x^8", "x^8"),
                ("0.25 * x - 1/4 * x", "0"), ("0 / 5", "0")]:
            with self.subTest(text=text):
                flat = flat_of(text)
                self.check(flat, {"x": poly}, [])

    def test_table(self):
        self.check(flat_of("-1 / x"), {"x": "-q1", "q1": "q1^3"}, ["x*q1 - 1"])
        self.check(flat_of("x / (x + 1)"), {"x": "x*q1", "q1": "-q1*q1*x*q1"}, ["x*q1 + q1 - 1"])
        self.check(flat_of("exp(2 * x)"), {"x": "q1", "q1": "2*q1^2"}, [])
        self.check(flat_of("log(x)"), {"x": "q2", "q1": "-q1*q1*q2", "q2": "q1*q2"}, ["x*q1 - 1"])
        self.check(flat_of("sin(x)"), {"x": "q1", "q1": "q2*q1", "q2": "-q1*q1"}, ["q1*q1 + q2*q2 - 1"])
        self.check(flat_of("cos(x^2)"), {"x": "q2", "q1": "2*x*q2*q2", "q2": "-2*x*q1*q2"}, ["q1*q1 + q2*q2 - 1"])
        self.check(flat_of("root(x)"), {"x": "q1", "q1": "1/2*q2*q1", "q2": "-1/2*q2*q2*q2*q1"}, ["q1*q1 - x", "q1*q2 - 1"])
        flat = flattened(parse_model("letter x = 1\nletter y = 2\nslope x = y\nslope y = exp(x * y)"))
        self.check(flat, {"x": "y", "y": "q1", "q1": "q1*y*y + q1*x*q1"}, [])

    def test_from_the_inside_out(self):
        flat = flat_of("exp(1 / x) + sin(exp(x))")
        self.check(flat, {
            "x": "q2 + q4", "q1": "-q1*q1*q2 - q1*q1*q4", "q2": "-q2*q1*q1*q2 - q2*q1*q1*q4", "q3": "q3*q2 + q3*q4",
            "q4": "q5*q3*q2 + q5*q3*q4", "q5": "-q4*q3*q2 - q4*q3*q4"}, ["x*q1 - 1", "q4*q4 + q5*q5 - 1"])
        # The parts of a quotient from left to right, one letter's slope ahead of the next one's.
        flat = flattened(parse_model("letter x = 1\nletter y = 2\nslope y = exp(y)\nslope x = exp(x) / exp(2 * x)"))
        self.check(flat, {"x": "q1*q3", "y": "q4", "q1": "q1*q1*q3", "q2": "2*q2*q1*q3", "q3": "-q3*q3*2*q2*q1*q3",
                          "q4": "q4*q4"}, ["q2*q3 - 1"])

    def test_many_pairs(self):
        # Each adds two letters, the last one of which is the last one of all.
        check_form(self, flat_of("sin(x) + sin(2 * x) + cos(3 * x)"))
        check_form(self, flat_of("root(x) + root(2 * x) + root(3 * x)"))

    def test_met_twice(self):
        for text, many in [("1 / x + 2 / x", 1), ("1 / x + x / (x + x - x)", 1), ("exp(x) + exp(2 * x / 2)", 1),
                           ("sin(x) + cos(x)", 2), ("cos(x) * sin(x) + cos(x)", 2), ("1 / x + log(x)", 2), ("log(x) - 3 / x", 2),
                           ("log(x) + log(x)", 2), ("root(x) / root(x)", 2), ("1 / root(x)", 2), ("root(x) + root(x + 0)", 2),
                           ("exp(x) + log(x)", 3), ("sin(x) + sin(2 * x)", 4), ("1 / x + 1 / (2 * x)", 2), ("exp(x) + exp(-x)", 2),
                           ("root(x) + 1 / x", 3), ("exp(x) / exp(x)", 2), ("1 / (1 / x)", 2)]:
            with self.subTest(text=text):
                flat = flat_of(text)
                check_form(self, flat)
                self.assertEqual(len(flat[1][1]), 1 + many)
        self.check(flat_of("1 / root(x) - root(x)"), {"x": "q2 - q1", "q1": "1/2*q2*q2 - 1/2*q2*q1", "q2": "-1/2*q2^4 + 1/2*q2^3*q1"},
                   ["q1*q1 - x", "q1*q2 - 1"])
        self.check(flat_of("log(x) + 1 / x"), {"x": "q1 + q2", "q1": "-q1^3 - q1^2*q2", "q2": "q1^2 + q1*q2"}, ["x*q1 - 1"])

    def test_letters_that_stand_still(self):
        flat = flat_of("x * exp(g) + sin(2) + root(4)", "given g = 1 to 2", low="1", high="1")
        self.assertEqual(slopes(flat)["q1"], "0")
        self.assertEqual([poly for name, poly in slopes(flat).items() if name != "x"], ["0"] * (len(flat[1][1]) - 1))
        self.check(flat_of("exp(0)"), {"x": "q1", "q1": "0"}, [])
        self.check(flat_of("log(2)"), {"x": "q2", "q1": "0", "q2": "0"}, ["2*q1 - 1"])
        self.check(flat_of("sin(x - x)"), {"x": "q1", "q1": "0", "q2": "0"}, ["q1*q1 + q2*q2 - 1"])
        self.check(flat_of("(x - x) / x"), {"x": "0", "q1": "0"}, ["x*q1 - 1"])

    def test_names_left_out(self):
        flat = flattened(parse_model("letter q1 = 1\ngiven q3 = 1\ntime q4\nslope q1 = exp(q1) + exp(q3) + exp(q4)"))
        self.assertEqual(flat[1][1], ("q1", "q3", "q4", "q2", "q5", "q6"))


class TestLimits(unittest.TestCase):
    def test_by_nothing(self):
        for text in ["1 / (x - x)", "x / 0", "0 / 0", "1 / (x * 0)", "exp(1 / (1 - 1))", "(1 / (x - x))^0"]:
            refuses(flattened, NotThere, {}, parse_model(f"letter x = 1\nslope x = {text}"))

    def model(self, slope, low=1, high=2):
        return ("model", None, (), (("x", (low, 1), (high, 1), parse_expression(slope)),))

    def test_degree(self):
        self.assertEqual(slopes(flattened(self.model("x^4 * x^4")))["x"], "x^8")
        for text in ["x^8 * x", "(x^2)^5", "(x^8 * x) * 0", "x * x^8 - x^8 * x", "(x^3)^8", "(x + 1)^8 * x", "x^8 / x"]:
            too_many(flattened, "degree", 8, self.model(text))

    def test_terms(self):
        letters = "abcdefgh"
        def model(slope):
            return ("model", None, (), tuple(
                (name, (1, 1), (1, 1), parse_expression(slope if name == "a" else "1")) for name in letters))
        total = " + ".join(letters)
        # Of 8 letters and 1 the square has 45 terms; the third power of 4 letters and 1 has 35, the fourth 70.
        self.assertEqual(len(flattened(model(f"({total} + 1)^2"))[1][2][0]), 45)
        sixty = f"({total} + 1)^2 + (a + b + c)^3 + a^3 * b + a^3 * c + a^4 + b^4 + c^4"
        self.assertEqual(len(flattened(model(sixty))[1][2][0]), 60)
        too_many(flattened, "terms", 60, model(sixty + " + d^4"))
        too_many(flattened, "terms", 60, model(f"(({sixty} + d^4) - d^4)"))
        too_many(flattened, "terms", 60, model("(a + b + c + d + 1)^4"))
        self.assertEqual(len(flattened(model("(a + b + c + d + 1)^3"))[1][2][0]), 35)
        # The degree comes first.
        too_many(flattened, "degree", 8, model(f"(({total})^2)^5"))
        too_many(flattened, "terms", 60, model(f"({total})^8 * a"))
        # What is wrong with an expression further ahead comes first, by whatever it is.
        refuses(flattened, NotThere, {}, model("(1 / (a - a)) * a^8 * a"))
        too_many(flattened, "degree", 8, model("a^8 * a / (a - a)"))

    def test_letters(self):
        seven = " + ".join(f"exp({k} * x)" for k in range(1, 8))
        self.assertEqual(len(flattened(self.model(seven))[1][1]), 8)
        too_many(flattened, "letters", 8, self.model(seven + " + exp(8 * x)"))
        too_many(flattened, "letters", 8, self.model(" + ".join(f"sin({k} * x)" for k in range(1, 5))))
        many = " + ".join(f"root({k} + x)" for k in range(1, 22))
        too_many(flattened, "letters", 8, self.model(many))
        # Letters come behind all that is told of single expressions, and ahead of starts.
        too_many(flattened, "degree", 8, self.model(many + " + x^8 * x"))
        refuses(flattened, NotThere, {}, self.model(many + " + 1 / (x - x)"))
        too_many(flattened, "letters", 8, self.model(many.replace("root(1 + x)", "root(x - 99)")))

    def test_not_there(self):
        for text, low, high in [
                ("1 / x", -1, 1), ("1 / x", 0, 1), ("log(x)", 0, 1), ("log(x)", -2, -1), ("exp(x)", 0, 17), ("root(x)", -1, 1),
                ("root(x)", 0, 1), ("sin(x)", 0, 65), ("exp(exp(x))", 3, 3), ("1 / (x - 1)", 1, 1), ("1 / (x * x - 2 * x + 2)", 0, 3),
                ("log(0)", 1, 1), ("exp(x) / sin(x)", -1, 1)]:
            with self.subTest(text=text):
                refuses(flattened, NotThere, {}, self.model(text, low, high))
        # Only the expression that a letter was added for counts.
        first = flattened(self.model("1 / x + 1 / (x - 3 + 3 - x + x)", 1, 2))
        self.assertEqual(len(first[1][1]), 2)
        refuses(flattened, NotThere, {}, self.model("1 / (x - 3 + 3 - x + x) + 1 / x", 1, 2))
        self.assertEqual(len(flattened(self.model("x / (2 - 1)", 0, 0))[1][1]), 1)

    def test_grains(self):
        most = 2 ** 30
        self.assertEqual(flattened(self.model("x", -most, most))[2], ((-MOST, MOST),))
        too_many(flattened, "grains", MOST, self.model("x", 0, most + 1))
        too_many(flattened, "grains", MOST, self.model("x", -most - 1, 0))
        thin = ("model", None, (("g", (1, 2 ** 31), (1, 1)),), (("x", (1, 1), (1, 1), parse_expression("1 / g")),))
        too_many(flattened, "grains", MOST, thin)
        # Numbers may be as great as they are; but letters begin within bounds.
        self.assertEqual(slopes(flattened(self.model(f"{10 ** 12} / x")))["x"], f"{10 ** 12}*q1")
        for low, high, error in [(most + 1, most + 2, LimitError)]:
            with self.assertRaises((error, NotThere)):
                flattened(self.model("log(x)", low, high))

    def test_slopes_then_ties(self):
        # x has a slope of degree 7; that of exp(x * x) is 2 x q1 times it.
        self.assertEqual(len(flattened(self.model("x^6 + 0 * exp(x * x)"))[1][1]), 2)
        too_many(flattened, "degree", 8, self.model("x^7 + 0 * exp(x * x)"))
        # The slope of a standing letter is 0; its tie has the degree 9.
        model = ("model", None, (("g", (1, 1), (1, 1)),), (("x", (1, 1), (1, 1), parse_expression("x / (g^8 + 1)")),))
        too_many(flattened, "degree", 8, model)
        model = ("model", None, (("g", (1, 1), (1, 1)),), (("x", (1, 1), (1, 1), parse_expression("x / (g^7 + 1)")),))
        self.assertEqual(poly_text(flattened(model)[3][0], ("x", "g", "q1")), "-1 + q1 + g^7*q1")
        # A start that is not there comes ahead of slopes.
        refuses(flattened, NotThere, {}, self.model("x^7 + 0 * exp(20 + x * x)"))


class TestFacts(unittest.TestCase):
    """[67]: slopes and ties at points where the added letters are what they stand for."""

    def number_of(self, text, x):
        return {"exp": exp, "log": log, "sin": sine, "cos": cosine}[text](decimal(x))

    def test_starts(self):
        flat = flattened(parse_model("letter x = 1 to 2\nslope x = exp(x) + log(x) + cos(x) + root(x)"))
        inner = ((ONE, 2 * ONE),)
        stands = ["x", "exp(x)", "1 / x", "log(x)", "sin(x)", "cos(x)", "root(x)", "1 / root(x)"]
        for text, interval in zip(stands, flat[2]):
            told = expression_value(parse_expression(text), ["x"], inner)
            # All values are held: those at the ends, and some between.
            for k in range(11):
                point = ((ONE + k * ONE // 10,) * 2,)
                low, high = expression_value(parse_expression(text), ["x"], point)
                self.assertTrue(interval[0] <= high and low <= interval[1], text)
            self.assertTrue(within(told, (interval[0] - 200, interval[1] + 200)), text)
        self.assertEqual(flat[2][2], over_of((ONE, 2 * ONE)))

    def test_slopes_are_those_of_the_functions(self):
        # By small differences along the course, at points with all letters told to seventy digits.
        flat = flattened(parse_model(
            "letter x = 1 to 2\nletter y = 1\nslope x = log(x) * y + cos(x * y)\nslope y = 1 / (x + y)"))
        names = flat[1][1]
        self.assertEqual(len(names), 7)

        def all_letters(x, y):
            return (x, y, 1 / x, Fraction(log(decimal(x))), Fraction(sine(decimal(x * y))), Fraction(cosine(decimal(x * y))),
                    1 / (x + y))
        random = Random(67)
        for _ in range(5):
            x, y = Fraction(random.randint(10, 20), 10), Fraction(random.randint(5, 15), 10)
            here = all_letters(x, y)
            along = [value(poly, here) for poly in flat[1][2]]
            little = Fraction(1, 10 ** 20)
            there = all_letters(x + little * along[0], y + little * along[1])
            for one, other, slope in zip(here, there, along):
                self.assertLess(abs((other - one) / little - slope), Fraction(1, 10 ** 15))
            for tie in flat[3]:
                self.assertLess(abs(value(tie, here)), NEAR)

    def test_polys_have_the_values_of_expressions(self):
        random = Random(68)
        done = 0
        for _ in range(150):
            expression = some_expression(random, 4)
            model = ("model", None, (("y", (1, 1), (1, 1)),), (("x", (1, 1), (1, 1), expression),))
            try:
                flat = flattened(model)
            except (LimitError, NotThere):
                continue
            check_form(self, flat)
            # Where nothing was added the poly is worth what the expression is.
            if len(flat[1][1]) == 2:
                own = value(flat[1][2][0], (Fraction(1), Fraction(1)))
                low, high = expression_value(expression, ["x", "y"], ((ONE, ONE),) * 2)
                self.assertTrue(low <= own * ONE <= high)
                done += 1
            for tie in flat[3]:
                self.assertTrue(is_poly(len(flat[1][1]), tie))
        self.assertGreater(done, 20)
