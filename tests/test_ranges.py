"""[7], [31] to [34]: ranges of POLYS over boxes."""

import unittest
from fractions import Fraction
from random import Random

from tests.reference import ends, least, some_interval, some_poly, value
from tests.support import BOXES, MOST, ONE, POLY, check_calls, refuses, too_many
from truecourse.errors import InvalidBox, InvalidPoly
from truecourse.intervals import around, meet, minus, plus, powered, scaled, times, within
from truecourse.polys import slope
from truecourse.ranges import best_range, mean_range, nested_range, plain_range

FUNCTIONS = (plain_range, nested_range, mean_range, best_range)
BOX = (InvalidBox, BOXES + [((0, 1),), ((0, 1),) * 3])
XY = (((0, 1), (1, 1)), ((1, 0), (1, 1)))


def term_range(term, box):
    told = (ONE, ONE)
    for many, interval in zip(term[0], box):
        if many:
            told = times(told, powered(interval, many))
    return scaled(told, term[1])


def plain(poly, box):
    told = (0, 0)
    for term in poly:
        told = plus(told, term_range(term, box))
    return told


def nested(poly, box):
    if not poly:
        return (0, 0)
    if not box:
        return around(poly[0][1])
    top = max(exponents[0] for exponents, _ in poly)
    parts = [tuple((e[1:], c) for e, c in poly if e[0] == k) for k in range(top + 1)]
    told = nested(parts[top], box[1:])
    for k in range(top - 1, -1, -1):
        told = plus(times(told, box[0]), nested(parts[k], box[1:]))
    return told


def mean(poly, box):
    middles = tuple(((low + high) // 2,) * 2 for low, high in box)
    told = plain(poly, middles)
    for k, interval in enumerate(box):
        told = plus(told, times(plain(slope(poly, k) if poly else (), box), minus(interval, middles[k])))
    return told


class TestRanges(unittest.TestCase):
    def test_errors(self):
        for function in FUNCTIONS:
            check_calls(self, function, [("poly", XY, POLY), ("box", ((0, 1), (2, 3)), BOX)])
            refuses(function, InvalidPoly, {"value": None}, None, None)
            for many in range(1, 9):
                self.assertEqual(function((), ((-MOST, MOST),) * many), (0, 0))
            for box in ((), ((0, 1),) * 9, None):
                refuses(function, InvalidBox, {"value": box}, (), box)

    def test_by_hand(self):
        bow, unit = (((1,), (-1, 1)), ((2,), (1, 1))), ((0, ONE),)
        told = [function(bow, unit) for function in FUNCTIONS]
        quarter = ONE // 4
        self.assertEqual(told, [(-ONE, ONE), (-ONE, 0), (-3 * quarter, quarter), (-3 * quarter, 0)])
        third = (((0,), (1, 3)),)
        for function in FUNCTIONS:
            self.assertEqual(function(third, ((5, 9),)), around((1, 3)))

    def test_nested_in_two_letters(self):
        # y + x * (1 - y * y) with the first letter outside.
        poly = (((0, 1), (1, 1)), ((1, 0), (1, 1)), ((1, 2), (-1, 1)))
        self.assertEqual(nested_range(poly, ((0, ONE), (0, ONE))), (0, 2 * ONE))
        self.assertEqual(plain_range(poly, ((0, ONE), (0, ONE))), (-ONE, 2 * ONE))

    def test_roundings_on_the_way(self):
        # Each of the steps rounds outward: the product first, then the scaling, then the sum.
        poly = (((0, 1), (1, 3)), ((1, 1), (1, 7)))
        self.assertEqual(plain_range(poly, ((1, 1), (1, 1))), (0, 2))
        self.assertEqual(nested_range(poly, ((1, 1), (1, 1))), (0, 2))
        self.assertEqual(plain_range((((3,), (1, 1)),), ((3 * ONE // 2 + 1,) * 2,)),
                         powered((3 * ONE // 2 + 1,) * 2, 3))

    def test_beyond_on_the_way(self):
        edge = 2 ** 55
        product = (((1, 1), (1, 2 ** 20)),)
        self.assertEqual(plain_range(product, ((edge, edge),) * 2), (2 ** 50, 2 ** 50))
        too_many(plain_range, "grains", MOST, product, ((edge, edge + 1), (edge, edge)))
        square = (((2,), (1, 2 ** 20)),)
        for function in (plain_range, mean_range, best_range):
            self.assertEqual(function(square, ((edge, edge),)), (2 ** 50, 2 ** 50))
            too_many(function, "grains", MOST, square, ((edge + 1, edge + 1),))
        # Nested, the number stands within: it is taken ahead of the products.
        self.assertEqual(nested_range(square, ((edge + 1, edge + 1),)), (2 ** 50, 2 ** 50 + 2 ** 15 + 1))
        too_many(nested_range, "grains", MOST, (((0,), (2 ** 31, 1)),), ((0, 0),))
        too_many(nested_range, "grains", MOST, (((0, 1), (1, 1)), ((1, 0), (1, 1))), ((0, MOST),) * 2)
        line = (((1,), (1, 1)),)
        self.assertEqual(best_range(line, ((-MOST, MOST),)), (-MOST, MOST))
        for function in FUNCTIONS:
            self.assertEqual(function(line, ((MOST, MOST),)), (MOST, MOST))
            too_many(function, "grains", MOST, (((1,), (2, 1)),), ((0, MOST // 2 + 1),))

    def test_formulas_and_values(self):
        random = Random(7)
        for k in range(200):
            letters = 1 + k % 4
            poly = some_poly(random, letters, 6, 5)
            size = random.choice([9, ONE, 4 * ONE])
            box = tuple(some_interval(random, size) for _ in range(letters))
            told = [function(poly, box) for function in FUNCTIONS]
            self.assertEqual(told[:3], [plain(poly, box), nested(poly, box), mean(poly, box)])
            self.assertEqual(told[3], meet(meet(told[0], told[1]), told[2]))
            for _ in range(8):
                point = [a + (b - a) * Fraction(random.randint(0, 7), 7) for a, b in map(ends, box)]
                self.assertTrue(within(least([value(poly, point)] * 2), told[3]))
