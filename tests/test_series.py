"""[72] to [74]: series by recurrence, and sums."""

import unittest
from fractions import Fraction
from math import ceil, factorial, floor
from random import Random

from tests import formulas
from tests.courses import BURSTS, GROWS, SPREADS, TURNS
from tests.reference import ends, fraction, ratio, some_interval, some_poly, some_ratio, value
from tests.support import (
    BOXES, INTERVAL, INTERVALS, MOST, ONE, OTHERS, POINTS, RATIO, RATIOS, SYSTEM, check_calls, counts_wrong, too_many)
from truecourse.errors import InvalidBox, InvalidCoefficients, InvalidMany, InvalidPoint
from truecourse.grains import grain_products
from truecourse.plainseries import plain_series
from truecourse.series import series_at, series_on, sum_of, sum_on

MANY = (InvalidMany, counts_wrong(1, 9))
POINT = (InvalidPoint, POINTS + [((1, 2),), ((1, 2),) * 3])
BOX = (InvalidBox, BOXES + [((0, 1),), ((0, 1),) * 3])
WHOLE = ((1, 1), (1, 1))


def some_system(random, letters, terms=3, degree=3):
    return ("system", tuple("abcd")[:letters], tuple(some_poly(random, letters, terms, degree) for _ in range(letters)))


class TestSeriesAt(unittest.TestCase):
    def test_errors(self):
        check_calls(self, series_at, [("system", TURNS, SYSTEM), ("point", WHOLE, POINT), ("many", 3, MANY)])

    def test_examples(self):
        self.assertEqual(series_at(GROWS, ((2, 1),), 1), [[(2, 1)]])
        self.assertEqual(series_at(GROWS, ((1, 1),), 9), [[(1, factorial(k)) for k in range(9)]])
        self.assertEqual(series_at(BURSTS, ((1, 2),), 9), [[(1, 2 ** (k + 1)) for k in range(9)]])
        self.assertEqual(series_at(TURNS, ((1, 1), (0, 1)), 4), [
            [(1, 1), (0, 1), (-1, 2), (0, 1)], [(0, 1), (1, 1), (0, 1), (-1, 6)]])
        self.assertEqual(series_at(("system", ("x", "y"), ((), (((0, 0), (2, 3)),))), WHOLE, 3), [
            [(1, 1), (0, 1), (0, 1)], [(1, 1), (2, 3), (0, 1)]])

    def test_values_of_the_plain_series(self):
        random = Random(72)
        for k in range(25):
            letters = 1 + k % 3
            system = some_system(random, letters)
            point = tuple(some_ratio(random) for _ in range(letters))
            told = series_at(system, point, 5)
            numbers = [fraction(x) for x in point]
            wanted = [[ratio(value(poly, numbers)) for poly in row] for row in plain_series(system, 5)]
            self.assertEqual(told, wanted)


class TestSeriesOn(unittest.TestCase):
    def test_errors(self):
        check_calls(self, series_on, [("system", TURNS, SYSTEM), ("box", ((0, 1), (2, 3)), BOX), ("many", 3, MANY)])

    def test_examples(self):
        self.assertEqual(series_on(GROWS, ((3, 5),), 3), [[(3, 5), (3, 5), (1, 3)]])
        self.assertEqual(series_on(BURSTS, ((-ONE, ONE),), 2), [[(-ONE, ONE), (-ONE, ONE)]])
        constant = ("system", ("x",), ((((0,), (1, 3)),),))
        self.assertEqual(series_on(constant, ((0, 0),), 3), [[(0, 0), (ONE // 3, ONE // 3 + 1), (0, 0)]])

    def test_by_the_formula(self):
        random = Random(73)
        for k in range(60):
            letters = 1 + k % 4
            system = some_system(random, letters)
            box = tuple(some_interval(random, random.choice([9, ONE, 2 ** 52, 2 ** 60])) for _ in range(letters))
            many = random.randint(1, 9)
            try:
                wanted = formulas.series(system[2], box, many - 1)
            except formulas.Beyond:
                too_many(series_on, "grains", MOST, system, box, many)
            else:
                self.assertEqual(series_on(system, box, many), wanted)

    def test_holds_all_points(self):
        random = Random(74)
        for k in range(30):
            letters = 1 + k % 3
            system = some_system(random, letters, 3, 2)
            box = tuple(some_interval(random, 2 * ONE) for _ in range(letters))
            told = series_on(system, box, 4)
            for _ in range(4):
                point = tuple(ratio(a + (b - a) * Fraction(random.randint(0, 7), 7)) for a, b in map(ends, box))
                for row, own in zip(told, series_at(system, point, 4)):
                    for (low, high), number in zip(row, own):
                        self.assertTrue(low <= fraction(number) * ONE <= high)

    def test_grains(self):
        edge = ((2 ** 55, 2 ** 55),)
        self.assertEqual(series_on(BURSTS, edge, 2), [[edge[0], (MOST, MOST)]])
        too_many(series_on, "grains", MOST, BURSTS, ((2 ** 55, 2 ** 55 + 1),), 2)
        too_many(series_on, "grains", MOST, BURSTS, edge, 3)
        self.assertEqual(series_on(BURSTS, ((-MOST, MOST),), 1), [[(-MOST, MOST)]])
        double = ("system", ("x",), ((((1,), (2, 1)),),))
        self.assertEqual(series_on(double, ((0, MOST // 2),), 2)[0][1], (0, MOST))
        too_many(series_on, "grains", MOST, double, ((0, MOST // 2 + 1),), 2)
        # What comes back within on the way counts: 2 x - x is x.
        back = ("system", ("x", "y"), ((((0, 1), (-1, 1)), ((1, 0), (2, 1))), ()))
        too_many(series_on, "grains", MOST, back, ((MOST, MOST), (MOST, MOST)), 2)


    def test_products_beyond(self):
        # The product goes beyond, whatever the ratio makes of it behind.
        thin = ("system", ("x", "y"), ((((1, 1), (1, 2 ** 20)),), ()))
        edge = (2 ** 55, 2 ** 55)
        self.assertEqual(series_on(thin, (edge, edge), 2)[0][1], (2 ** 50, 2 ** 50))
        for wide in [(2 ** 55, 2 ** 55 + 1), (-2 ** 55 - 1, 5)]:
            too_many(series_on, "grains", MOST, thin, (edge, wide), 2)
            too_many(series_on, "grains", MOST, thin, (wide, edge), 2)


class TestProducts(unittest.TestCase):
    """The short way of the sum of products is the same as the long one."""

    def test_same(self):
        random = Random(77)
        seen = set()
        for _ in range(3000):
            size = random.choice([2, ONE, 2 ** 55, 2 ** 55 + 2 ** 40])
            many = random.randint(1, 3)
            firsts, seconds = ([some_interval(random, size) for _ in range(many)] for _ in range(2))
            if random.random() < 0.3:
                firsts = [(high, high) for _, high in firsts]
            total = (0, 0)
            try:
                for one, other in zip(firsts, seconds):
                    total = formulas.plus(total, formulas.times(one, other))
            except formulas.Beyond:
                total = None
            seen.add(total is None)
            if total is None:
                too_many(grain_products, "grains", MOST, firsts, seconds)
            else:
                self.assertEqual(grain_products(firsts, seconds), total)
        self.assertEqual(seen, {True, False})

    def test_edges(self):
        edge, one = (2 ** 55, 2 ** 55), (ONE, ONE)
        for firsts, seconds, told in [
                ([edge], [edge], (MOST, MOST)), ([edge], [(-2 ** 55,) * 2], (-MOST, -MOST)), ([edge, one], [edge, (1, 1)], None),
                ([edge, one, one], [edge, (1, 1), (-1, -1)], None), ([edge, one], [(-2 ** 55,) * 2, (-1, -1)], None),
                ([edge, one], [edge, (-1, -1)], (MOST - 1, MOST - 1)), ([edge], [(2 ** 55, 2 ** 55 + 1)], None),
                ([edge], [(-2 ** 55 - 1, 0)], None), ([(-1, 1)], [(-1, 1)], (-1, 1)), ([(-3, -1)], [(-2, -1)], (0, 1)),
                ([one, edge], [(-1, -1), (2 ** 55, 2 ** 55 + 1)], None), ([], [], (0, 0))]:
            if told is None:
                too_many(grain_products, "grains", MOST, firsts, seconds)
            else:
                self.assertEqual(grain_products(firsts, seconds), told)


class TestSums(unittest.TestCase):
    def test_errors(self):
        numbers = OTHERS + [3, "x", (), [], [(2, 4)], [1], [(1, 2)] * 41, [(1, 2), None], {1: 2}] + [[x] for x in RATIOS]
        check_calls(self, sum_of, [("coefficients", [(1, 1), (1, 2)], (InvalidCoefficients, numbers)), ("ratio", (1, 3), RATIO)])
        intervals = OTHERS + [3, "x", (), [], [(1, 0)], [1], [(1, 2)] * 41, [(1, 2), None]] + [[x] for x in INTERVALS]
        check_calls(self, sum_on, [
            ("coefficients", [(0, 1), (2, 3)], (InvalidCoefficients, intervals)), ("interval", (0, 5), INTERVAL)])

    def test_sum_of(self):
        self.assertEqual(sum_of([(3, 4)], (5, 7)), (3, 4))
        self.assertEqual(sum_of(((1, 1), (1, 2)), (1, 3)), (7, 6))
        self.assertEqual(sum_of([(1, 1)] * 40, (2, 1)), (2 ** 40 - 1, 1))
        random = Random(75)
        for _ in range(40):
            numbers = [some_ratio(random) for _ in range(random.randint(1, 9))]
            time = some_ratio(random)
            wanted = sum(fraction(c) * fraction(time) ** k for k, c in enumerate(numbers))
            self.assertEqual(sum_of(numbers, time), ratio(wanted))

    def test_sum_on(self):
        self.assertEqual(sum_on([(3, 4)], (0, MOST)), (3, 4))
        self.assertEqual(sum_on(((ONE, ONE), (0, ONE)), (0, ONE)), (ONE, 2 * ONE))
        self.assertEqual(sum_on([(0, 0), (0, 0), (-ONE, ONE)], (-ONE, ONE // 2)), (-ONE, ONE))
        self.assertEqual(sum_on([(0, 0)] * 40, (-MOST, MOST)), (0, 0))
        random = Random(76)
        for _ in range(60):
            numbers = [some_interval(random, 3 * ONE) for _ in range(random.randint(1, 6))]
            times = some_interval(random, 2 * ONE)
            e = numbers[-1]
            for own in numbers[-2::-1]:
                e = formulas.plus(own, formulas.times(times, e))
            self.assertEqual(sum_on(numbers, times), e)
            for _ in range(4):
                points = [ratio(a + (b - a) * Fraction(random.randint(0, 3), 3)) for a, b in map(ends, numbers)]
                low, high = ends(times)
                total = sum_of(points, ratio(low + (high - low) * Fraction(random.randint(0, 3), 3)))
                self.assertTrue(e[0] <= floor(fraction(total) * ONE) and ceil(fraction(total) * ONE) <= e[1])

    def test_grains(self):
        self.assertEqual(sum_on([(0, 0), (ONE, ONE)], (-MOST, MOST)), (-MOST, MOST))
        too_many(sum_on, "grains", MOST, [(0, 1), (ONE, ONE)], (-MOST, MOST))
        too_many(sum_on, "grains", MOST, [(0, 0), (ONE, ONE + 1)], (-MOST, MOST))
        too_many(sum_on, "grains", MOST, [(-MOST, 0), (2 * ONE, 2 * ONE)], (0, MOST))

    def test_spreads(self):
        # A poly with products of three letters, by hand: r x - r x x at r = 2, x = 1/2.
        self.assertEqual(series_at(SPREADS, ((2, 1), (1, 2)), 4)[1], [(1, 2), (1, 2), (0, 1), (-1, 6)])
