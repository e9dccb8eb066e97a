"""[75], [76]: how coefficients hang on the start."""

import unittest
from fractions import Fraction
from random import Random

from tests import formulas
from tests.courses import BURSTS, GROWS, TURNS
from tests.reference import ends, fraction, ratio, some_interval, some_ratio
from tests.support import MOST, ONE, SYSTEM, check_calls, too_many
from tests.test_series import BOX, MANY, POINT, WHOLE, some_system
from truecourse.plainseries import plain_series
from truecourse.polys import slope, value_at
from truecourse.series import series_at, series_on
from truecourse.slopeseries import slopes_at, slopes_on


def plain_slopes(system, point, many):
    """By the slopes of the plain series: terms may be beyond those of a POLY."""
    letters = range(len(point))
    told = plain_series(system, many)
    return [tuple(tuple(number(told[i][k], j, point) for j in letters) for i in letters) for k in range(many)]


def number(poly, position, point):
    total = Fraction(0)
    for exponents, own in poly:
        if exponents[position]:
            part = fraction(own) * exponents[position]
            for k, (many, x) in enumerate(zip(exponents, point)):
                part *= fraction(x) ** (many - (k == position))
            total += part
    return ratio(total)


class TestSlopes(unittest.TestCase):
    def test_errors(self):
        check_calls(self, slopes_at, [("system", TURNS, SYSTEM), ("point", WHOLE, POINT), ("many", 3, MANY)])
        check_calls(self, slopes_on, [("system", TURNS, SYSTEM), ("box", ((0, 1), (2, 3)), BOX), ("many", 3, MANY)])

    def test_examples(self):
        self.assertEqual(slopes_at(GROWS, ((5, 1),), 4), [(((1, 1),),), (((1, 1),),), (((1, 2),),), (((1, 6),),)])
        self.assertEqual(slopes_at(BURSTS, ((1, 2),), 3), [(((1, 1),),), (((1, 1),),), (((3, 4),),)])
        n, u = (0, 1), (1, 1)
        self.assertEqual(slopes_at(TURNS, (u, u), 3), [
            ((u, n), (n, u)), ((n, (-1, 1)), (u, n)), (((-1, 2), n), (n, (-1, 2)))])
        self.assertEqual(slopes_on(BURSTS, ((0, ONE),), 2), [(((ONE, ONE),),), (((0, 2 * ONE),),)])
        self.assertEqual(slopes_on(TURNS, ((0, ONE), (0, ONE)), 1), [(((ONE, ONE), (0, 0)), ((0, 0), (ONE, ONE)))])
        constant = ("system", ("x",), ((((0,), (7, 1)),),))
        self.assertEqual(slopes_on(constant, ((0, ONE),), 3), [(((ONE, ONE),),), (((0, 0),),), (((0, 0),),)])

    def test_slopes_of_the_plain_series(self):
        random = Random(77)
        for k in range(20):
            letters = 1 + k % 3
            system = some_system(random, letters)
            point = tuple(some_ratio(random) for _ in range(letters))
            self.assertEqual(slopes_at(system, point, 4), plain_slopes(system, point, 4))
            for i, row in enumerate(plain_series(system, 2)):
                own = tuple(value_at(slope(row[1], j) if row[1] else (), point) for j in range(letters))
                self.assertEqual(slopes_at(system, point, 2)[1][i], own)

    def test_by_the_formula(self):
        random = Random(78)
        for k in range(40):
            letters = 1 + k % 3
            system = some_system(random, letters)
            box = tuple(some_interval(random, random.choice([9, ONE, 2 ** 52, 2 ** 60])) for _ in range(letters))
            many = random.randint(1, 6)
            try:
                wanted = formulas.slopes(system[2], box, many)
            except formulas.Beyond:
                too_many(slopes_on, "grains", MOST, system, box, many)
            else:
                self.assertEqual(slopes_on(system, box, many), wanted)

    def test_holds_all_points(self):
        random = Random(79)
        for k in range(20):
            letters = 1 + k % 3
            system = some_system(random, letters, 3, 2)
            box = tuple(some_interval(random, 2 * ONE) for _ in range(letters))
            told = slopes_on(system, box, 4)
            for _ in range(3):
                point = tuple(ratio(a + (b - a) * Fraction(random.randint(0, 7), 7)) for a, b in map(ends, box))
                for matrix, own in zip(told, slopes_at(system, point, 4)):
                    for row, numbers in zip(matrix, own):
                        for (low, high), part in zip(row, numbers):
                            self.assertTrue(low <= fraction(part) * ONE <= high)

    def test_grains(self):
        # Slope number 1 is 2 x, number 2 is 3 x x; the letter's own number 1 is made, too.
        edge = ((0, 2 ** 55),)
        self.assertEqual(slopes_on(BURSTS, edge, 2)[1], (((0, 2 ** 56),),))
        too_many(slopes_on, "grains", MOST, BURSTS, ((0, 2 ** 55 + 1),), 2)
        self.assertEqual(slopes_on(BURSTS, ((-MOST, MOST),), 1), [(((ONE, ONE),),)])
        too_many(slopes_on, "grains", MOST, BURSTS, edge, 3)
        # The slopes of a x are small, its own numbers are not.
        rate = ("system", ("x",), ((((1,), (2, 1)),),))
        too_many(slopes_on, "grains", MOST, rate, ((0, MOST // 2 + 1),), 2)
        self.assertEqual(slopes_on(rate, ((0, MOST // 2),), 2)[1], (((2 * ONE, 2 * ONE),),))


class TestMeanValue(unittest.TestCase):
    """[76]: coefficients from one point, by those from another one and the slopes between."""

    def test_mean_value(self):
        random = Random(80)
        for k in range(30):
            letters = 1 + k % 3
            system = some_system(random, letters, 3, 2)
            box = tuple(some_interval(random, ONE) for _ in range(letters))
            points = [
                tuple(ratio(a + (b - a) * Fraction(random.randint(0, 7), 7)) for a, b in map(ends, box)) for _ in range(2)]
            one, other = [series_at(system, point, 4) for point in points]
            slopes = slopes_on(system, box, 4)
            for n in range(4):
                for i in range(letters):
                    low = high = fraction(one[i][n])
                    for j in range(letters):
                        apart = fraction(points[1][j]) - fraction(points[0][j])
                        products = [apart * end for end in ends(slopes[n][i][j])]
                        low, high = low + min(products), high + max(products)
                    self.assertTrue(low <= fraction(other[i][n]) <= high)

    def test_numbers_of_points_are_those_on_boxes(self):
        point = ((1, 2), (3, 4))
        box = ((ONE // 2,) * 2, (3 * ONE // 4,) * 2)
        for row, own in zip(series_on(TURNS, box, 3), series_at(TURNS, point, 3)):
            self.assertEqual([(low, high) for low, high in row], [(n * ONE // d,) * 2 for n, d in own])
