"""[153], [156]: other letters."""

import unittest
from fractions import Fraction
from random import Random

from tests import formulas
from tests.courses import BOXES as STARTS, FALLS, KNOWN, TURNS, lies_in, starts
from tests.reference import fraction, ratio, some_interval, some_poly, some_ratio, value
from tests.support import BOXES, MATRICES, MOST, ONE, POINTS, SYSTEM, check_calls, refuses, too_many
from tests.test_sets import some_square
from truecourse.errors import InvalidBox, InvalidMatrix, InvalidPoint, NoInverse
from truecourse.letters import change_back, led_box, led_point, letters_changed
from truecourse.matrices import inverse, led, product, unit_matrix
from truecourse.polys import is_system
from truecourse.polytexts import parse_poly, poly_text
from truecourse.runners import run as run_to
from truecourse.runs import box_at
from truecourse.settings import plain_settings

N, U, TWO = (0, 1), (1, 1), (2, 1)
FLAT = ((U, U), (U, U))
SHEAR = ((U, TWO), (N, U))
NOT_SQUARE = [((U, U),), ((U,), (U,))]
MATRIX = (InvalidMatrix, MATRICES + NOT_SQUARE)
OF_TWO = (InvalidMatrix, MATRICES + NOT_SQUARE + [((U,),), unit_matrix(3)])
POINT = (InvalidPoint, POINTS + [(U,), (U, U, U)])


def told_by(names, *texts):
    return ("system", tuple(names), tuple(parse_poly(text, list(names)) for text in texts))


class TestChanged(unittest.TestCase):
    def test_errors(self):
        check_calls(self, letters_changed, [("system", TURNS, SYSTEM), ("matrix", SHEAR, OF_TWO), ("point", (U, N), POINT)])
        check_calls(self, change_back, [("matrix", SHEAR, MATRIX), ("point", (U, N), POINT)])
        check_calls(self, led_point, [("matrix", SHEAR, MATRIX), ("point", (U, N), POINT), ("spot", (N, TWO), POINT)])
        check_calls(self, led_box, [
            ("matrix", SHEAR, MATRIX), ("point", (U, N), POINT), ("box", ((0, 1), (2, 3)), (InvalidBox, BOXES + [((0, 1),), ((0, 1),) * 3]))])
        refuses(letters_changed, NoInverse, {}, TURNS, FLAT, (U, N))
        refuses(letters_changed, InvalidPoint, {"value": None}, TURNS, FLAT, None)
        refuses(change_back, NoInverse, {}, FLAT, (U, N))
        # These need no inverse.
        self.assertEqual(led_point(FLAT, (U, N), (U, TWO)), ((4, 1), (3, 1)))
        self.assertEqual(led_box(FLAT, (N, N), ((0, 1), (2, 3))), ((2, 4), (2, 4)))

    def test_example(self):
        """[156]: x with the slope - x, with new letters y = 2 x + 1, has y's slope 1 - y."""
        told = letters_changed(FALLS, ((TWO,),), (U,))
        self.assertEqual([poly_text(poly, ["y"]) for poly in told[2]], ["1 - y"])
        self.assertEqual(told[1], ("x",))

    def test_slopes(self):
        """M f(N (y - c)), at all points, by Python's own fractions."""
        random = Random(153)
        for k in range(40):
            letters = 1 + k % 3
            own = ("system", tuple("xyz")[:letters], tuple(some_poly(random, letters, 4, 2) for _ in range(letters)))
            matrix, point = some_square(random, letters), tuple(some_ratio(random) for _ in range(letters))
            told = letters_changed(own, matrix, point)
            self.assertIs(is_system(told), True)
            back = inverse(matrix)
            for _ in range(3):
                y = [Fraction(random.randint(-9, 9), 3) for _ in range(letters)]
                x = [sum(fraction(n) * (b - fraction(c)) for n, b, c in zip(row, y, point)) for row in back]
                slopes = [value(poly, x) for poly in own[2]]
                self.assertEqual([value(poly, y) for poly in told[2]], [sum(fraction(m) * s for m, s in zip(row, slopes)) for row in matrix])
            # Led back it is the system again.
            self.assertEqual(letters_changed(told, *change_back(matrix, point)), own)

    def test_one_behind_the_other(self):
        random = Random(154)
        for _ in range(20):
            own = ("system", ("x", "y"), tuple(some_poly(random, 2, 3, 2) for _ in range(2)))
            first, second = some_square(random, 2), some_square(random, 2)
            c, d = (tuple(some_ratio(random) for _ in range(2)) for _ in range(2))
            both = tuple(ratio(fraction(a) + fraction(b)) for a, b in zip(led(second, c), d))
            self.assertEqual(letters_changed(letters_changed(own, first, c), second, d), letters_changed(own, product(second, first), both))

    def test_unit(self):
        for own in (TURNS, told_by("xy", "x^8 - x*y", "1/3")):
            self.assertEqual(letters_changed(own, unit_matrix(2), (N, N)), own)
        self.assertEqual(change_back(unit_matrix(3), (N, U, TWO)), (unit_matrix(3), (N, (-1, 1), (-2, 1))))

    def test_back(self):
        random = Random(155)
        for k in range(30):
            letters = 1 + k % 4
            matrix, point = some_square(random, letters), tuple(some_ratio(random) for _ in range(letters))
            back, other = change_back(matrix, point)
            self.assertEqual(product(matrix, back), unit_matrix(letters))
            spot = tuple(some_ratio(random) for _ in range(letters))
            self.assertEqual(led_point(back, other, led_point(matrix, point, spot)), spot)
            self.assertEqual(change_back(back, other), (matrix, point))

    def test_terms(self):
        # (x + y + ..)^k has 60 terms at most, or more: 56 of the degree 5 in 4 letters, 84 of 6.
        def shifted(letters, degree):
            names = "abcd"[:letters]
            matrix = [[U if i == j or i == 0 else N for j in range(letters)] for i in range(letters)]
            return told_by(names, f"a^{degree}", *["0"] * (letters - 1)), tuple(tuple(row) for row in matrix), (N,) * letters
        for letters, degree, many in [(4, 5, 56), (3, 8, 45), (2, 8, 9), (4, 6, 84)]:
            own, matrix, point = shifted(letters, degree)
            if many <= 60:
                self.assertEqual(len(letters_changed(own, matrix, point)[2][0]), many)
            else:
                too_many(letters_changed, "terms", 60, own, matrix, point)
                refuses(letters_changed, InvalidPoint, {"value": (N,)}, own, matrix, (N,))
        # 60 terms, and one more by the constant that a shift of one letter makes.
        exponents = [(0,) + e for e in sorted((i, j, k) for i in range(5) for j in range(5) for k in range(5)) if 0 < sum(e) <= 8]
        terms = [(e, U) for e in exponents[:59]] + [((1, 0, 0, 0), U)]
        own = ("system", tuple("abcd"), (tuple(sorted(terms)), (), (), ()))
        self.assertIs(is_system(own), True)
        self.assertEqual(letters_changed(own, unit_matrix(4), (N,) * 4), own)
        too_many(letters_changed, "terms", 60, own, unit_matrix(4), (U, N, N, N))
        # What goes against itself on the way doesn't count: both slopes are alike, and their difference is 0.
        own = told_by("abcd", *["a^6", "a^6", "0", "0"])
        half, minus = (1, 2), (-1, 1)
        rows = ((U, minus, N, N), (half, half, N, N), (N, N, U, N), (N, N, N, U))
        told = letters_changed(own, rows, (N,) * 4)
        self.assertEqual(told[2][0], ())

    def test_led_points(self):
        random = Random(156)
        self.assertEqual(led_point(((TWO,),), (U,), ((1, 2),)), (TWO,))
        for _ in range(30):
            matrix, point, spot = some_square(random, 3), tuple(some_ratio(random) for _ in range(3)), tuple(some_ratio(random) for _ in range(3))
            self.assertEqual(led_point(matrix, point, spot), tuple(
                ratio(sum(fraction(m) * fraction(x) for m, x in zip(row, spot)) + fraction(c)) for row, c in zip(matrix, point)))

    def test_led_boxes(self):
        random = Random(157)
        self.assertEqual(led_box((((1, 2),),), ((0, 1),), ((1, 3),)), ((0, 2),))
        for _ in range(40):
            letters = random.randint(1, 3)
            matrix, point = some_square(random, letters), tuple(some_ratio(random) for _ in range(letters))
            box = tuple(some_interval(random, random.choice([5, ONE])) for _ in range(letters))
            wanted = tuple(
                formulas.plus(formulas.added([formulas.scaled(x, m) for x, m in zip(box, row)]), formulas.around(c)) for row, c in zip(matrix, point))
            told = led_box(matrix, point, box)
            self.assertEqual(told, wanted)
            for spot in starts(box, random, 3):
                self.assertTrue(lies_in([fraction(x) for x in led_point(matrix, point, tuple(ratio(x) for x in spot))], told))
        too_many(led_box, "grains", MOST, ((TWO,),), (N,), ((0, 2 ** 69 + 1),))
        self.assertEqual(led_box(((TWO,),), (N,), ((0, 2 ** 69),)), ((0, MOST),))
        too_many(led_box, "grains", MOST, ((U,),), ((2 ** 30 + 1, 1),), ((0, 0),))
        too_many(led_box, "grains", MOST, ((U, U), (N, U)), ((-2 ** 30, 1), N), ((MOST, MOST), (1, 1)))

    def test_courses(self):
        """[153]: x is a course of the system exactly if y is one of the changed one."""
        random = Random(158)
        for name in ("turns", "falls", "rated", "spirals"):
            own, course = KNOWN[name]
            letters = len(own[1])
            matrix, point = some_square(random, letters), tuple(some_ratio(random, 3) for _ in range(letters))
            changed = letters_changed(own, matrix, point)
            box = led_box(matrix, point, STARTS[name])
            run = run_to(changed, box, ONE // 4, plain_settings("set", 6))
            self.assertEqual(run[0], "whole")
            for start in starts(STARTS[name], random, 3):
                for time in (Fraction(0), Fraction(1, 7), Fraction(1, 4)):
                    x = course(start, time)
                    y = [sum(fraction(m) * a for m, a in zip(row, x)) + fraction(c) for row, c in zip(matrix, point)]
                    at = time * ONE
                    if at.denominator == 1:
                        self.assertTrue(lies_in(y, box_at(run[1], int(at))), name)
