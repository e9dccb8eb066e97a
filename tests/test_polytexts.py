"""[27], [28]: texts of POLYS."""

import unittest
from random import Random

from tests.reference import some_poly
from tests.support import NAMES, POLY, TEXT, check_calls, refuses, too_many
from truecourse.errors import BadText, InvalidNames, UnlikeLetters
from truecourse.polys import poly_of
from truecourse.polytexts import parse_poly, poly_text

XY = ["x", "y2"]
WRONG_NAMES = (InvalidNames, NAMES)


def term(text, names=("x", "y2")):
    return parse_poly(text, list(names))


class TestPolyTexts(unittest.TestCase):
    def test_texts(self):
        texts = {
            (): "0", (((0, 0), (1, 1)),): "1", (((0, 0), (-1, 1)),): "-1",
            (((0, 0), (-3, 2)),): "-3/2", (((1, 0), (1, 1)),): "x", (((1, 0), (-1, 1)),): "-x",
            (((1, 0), (-1, 3)),): "-1/3*x", (((2, 3), (7, 1)),): "7*x^2*y2^3",
            (((0, 0), (1, 1)), ((0, 1), (-1, 1)), ((1, 0), (5, 4)), ((1, 1), (-5, 1))):
                "1 - y2 + 5/4*x - 5*x*y2"}
        for poly, text in texts.items():
            self.assertEqual(poly_text(poly, XY), text)
            self.assertEqual(parse_poly(text, XY), poly)
        self.assertEqual(poly_text((), tuple("abcdefgh")), "0")
        self.assertEqual(poly_text((((1,), (10 ** 4500, 1)),), ["x"]), "1" + "0" * 4500 + "*x")

    def test_errors(self):
        names = ("names", ["x"], WRONG_NAMES)
        check_calls(self, poly_text, [("poly", (((1,), (1, 1)),), POLY), names])
        check_calls(self, parse_poly, [("text", "x + 1", TEXT), names])
        refuses(poly_text, UnlikeLetters, {}, (((1,), (1, 1)),), ["x", "y"])
        refuses(poly_text, UnlikeLetters, {}, (((1, 0), (1, 1)),), ["x"])
        refuses(parse_poly, InvalidNames, {"value": []}, "$", [])

    def test_reading(self):
        told = {
            " x ": "x", "+x": "x", "- x": "-x", "2*x*3": "6*x", "x*x^2*x^0": "x^3", "x^08": "x^8",
            "3/6*x": "1/2*x", "3 / 6 * x": "1/2*x", "x ^ 2": "x^2", "x - x": "0", "0": "0",
            "y2+x+y2": "2*y2 + x", "1/02": "1/2", "  - 1 + x - 1": "-2 + x", "x*0": "0",
            "9" * 40: "9" * 40, "1/" + "0" * 39 + "1": "1", "x^" + "0" * 39 + "2": "x^2"}
        for text, other in told.items():
            self.assertEqual(poly_text(term(text), XY), other, text)

    def test_faults(self):
        faults = {
            "": 0, "  ": 2, "+": 1, "- ": 2, "x +": 3, "x + ": 4, "x *": 3, "x^": 2, "x ^ ": 4,
            "1/": 2, "1 / ": 4, "--x": 1, "x + -y2": 4, "x*-1": 2, "x x": 2, "2x": 1, "x 2": 2,
            "z": 0, "x + y": 4, "x2": 0, "y": 0, "xx": 0, "y22": 0, "X": 0, "x/2": 1, "2^3": 1,
            "x^2^2": 3, "1/2/3": 3, "x^9": 2, "x^10": 2, "x ^ 009": 4, "1/0": 2, "1/ 00": 3,
            "x^-1": 2, "x^x": 2, "1/x": 2, "1/-2": 2, "(x)": 0, "x)": 1, "1.5": 1, "x\n": 1,
            "\nx": 0, "1" * 41: 0, "x + 1/" + "2" * 41: 6, "x^" + "0" * 41: 2, "x**x": 2,
            "x + z": 4, "to": 0, "x+$": 2, "x^9 $": 2, "*x": 0, "/2": 0, "^2": 0, "x^y2": 2}
        for text, position in faults.items():
            with self.subTest(text=text):
                refuses(parse_poly, BadText, {"position": position}, text, XY)

    def test_limits(self):
        too_many(parse_poly, "degree", 8, "x^8*x", ["x"])
        self.assertEqual(parse_poly("x^8*x - x*x^8 + x", ["x"]), (((1,), (1, 1)),))
        names = list("abcdefgh")
        powers = [f"{a}*{b}^2" for a in names for b in names]
        self.assertEqual(len(parse_poly(" + ".join(powers[:60]), names)), 60)
        too_many(parse_poly, "terms", 60, " + ".join(powers[:61]), names)
        too_many(parse_poly, "degree", 8, " + ".join(powers[:61] + ["a^8*a"]), names)
        refuses(parse_poly, BadText, {"position": 6}, "x^8*x ?", ["x"])

    def test_long_texts(self):
        text = "*".join(["3/7"] * 4000)
        value = poly_of(1, [((0,), (3 ** 4000, 7 ** 4000))])
        self.assertEqual(parse_poly(text, ["x"]), value)

    def test_read_back(self):
        random = Random(6)
        for k in range(150):
            names = [f"q{j}" for j in range(1 + k % 8)]
            poly = some_poly(random, len(names), 9, 8)
            self.assertEqual(parse_poly(poly_text(poly, names), names), poly)
