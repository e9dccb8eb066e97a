"""[5], [7], [12], [13], [14]: INTERVALS."""

import unittest
from fractions import Fraction
from random import Random

from tests.reference import ends, fraction, least, some_interval, some_ratio
from tests.support import (
    INTERVAL, INTERVALS, MOST, ONE, RATIO, check_calls, counts_wrong, refuses, too_many)
from truecourse.errors import InvalidInterval, InvalidMany, NoQuotient
from truecourse.intervals import (
    around, ends_of, halves, holds_ratio, hull, is_interval, meet, middle, minus, over, plus,
    powered, scaled, times, width, within)

TWO = [("one", (1, 2), INTERVAL), ("other", (3, 4), INTERVAL)]


class TestIntervals(unittest.TestCase):
    def test_is_interval(self):
        for value in [(0, 0), (-MOST, MOST), (-5, -5), (MOST, MOST), (-MOST, -MOST)]:
            self.assertIs(is_interval(value), True)
        for value in INTERVALS + [(MOST, MOST + 1), (-MOST - 1, -MOST - 1)]:
            self.assertIs(is_interval(value), False)

    def test_errors(self):
        one = [("interval", (1, 2), INTERVAL)]
        for function in (plus, minus, times, over, hull, meet, within):
            check_calls(self, function, TWO)
        for function in (ends_of, width, middle, halves):
            check_calls(self, function, one)
        for function in (holds_ratio, scaled):
            check_calls(self, function, one + [("ratio", (1, 2), RATIO)])
        check_calls(self, around, [("ratio", (1, 2), RATIO)])
        many = ("many", 3, (InvalidMany, counts_wrong(0, 40)))
        check_calls(self, powered, one + [many])
        refuses(over, InvalidInterval, {"value": None}, None, (0, 0))

    def test_around(self):
        self.assertEqual(around((1, 3)), (ONE // 3, ONE // 3 + 1))
        self.assertEqual(around((-1, 3)), (-ONE // 3, -(ONE // 3)))
        self.assertEqual(around((5, 1)), (5 * ONE, 5 * ONE))
        self.assertEqual(around((2 ** 30, 1)), (MOST, MOST))
        self.assertEqual(around((-2 ** 30, 1)), (-MOST, -MOST))
        too_many(around, "grains", MOST, (MOST + 1, ONE))
        too_many(around, "grains", MOST, (-MOST - 1, ONE))
        too_many(around, "grains", MOST, (2 ** 31 * 3 + 1, 6))

    def test_ends_and_places(self):
        self.assertEqual(ends_of((-ONE // 2, 3)), ((-1, 2), (3, ONE)))
        self.assertEqual(ends_of((0, 0)), ((0, 1), (0, 1)))
        for number, told in [((1, ONE), True), ((3, ONE), True), ((7, 2 * ONE), False),
                             ((1, 2 * ONE), False), ((1, 3 * ONE // 4), True), ((0, 1), False)]:
            self.assertIs(holds_ratio((1, 3), number), told)
        self.assertIs(holds_ratio((-3, -1), (-1, ONE)), True)
        self.assertIs(holds_ratio((-3, -1), (-1, 2 * ONE)), False)

    def test_parts(self):
        self.assertEqual(width((-5, 7)), 12)
        self.assertEqual(width((-MOST, MOST)), 2 * MOST)
        self.assertEqual([middle((3, 8)), middle((-4, 1)), middle((-8, -3))], [5, -2, -6])
        self.assertEqual(halves((-4, 1)), ((-4, -2), (-2, 1)))
        self.assertEqual(halves((7, 8)), ((7, 7), (7, 8)))
        self.assertEqual(hull((5, 6), (-1, 0)), (-1, 6))
        self.assertEqual(meet((0, 5), (5, 9)), (5, 5))
        self.assertEqual(meet((0, 9), (3, 4)), (3, 4))
        self.assertIs(meet((0, 4), (5, 9)), None)
        self.assertIs(meet((5, 9), (0, 4)), None)
        for one, other, told in [((1, 2), (1, 2), True), ((0, 2), (1, 2), False),
                                 ((1, 3), (1, 2), False), ((1, 1), (0, 5), True)]:
            self.assertIs(within(one, other), told)

    def test_powered_edges(self):
        self.assertEqual(powered((-5, 9), 0), (ONE, ONE))
        self.assertEqual(powered((0, 0), 0), (ONE, ONE))
        self.assertEqual(powered((-3 * ONE, 2 * ONE), 2), (0, 9 * ONE))
        self.assertEqual(powered((-3 * ONE, 0), 2), (0, 9 * ONE))
        self.assertEqual(powered((0, 3 * ONE), 2), (0, 9 * ONE))
        self.assertEqual(powered((-3 * ONE, -2 * ONE), 2), (4 * ONE, 9 * ONE))
        self.assertEqual(powered((-3 * ONE, 2 * ONE), 3), (-27 * ONE, 8 * ONE))
        self.assertEqual(powered((1, 1), 40), (0, 1))
        self.assertEqual(powered((-1, 1), 3), (-1, 1))
        self.assertEqual(powered((-1, 1), 2), (0, 1))
        self.assertEqual(powered((-MOST, MOST), 1), (-MOST, MOST))
        root = 2 ** 55
        self.assertEqual(powered((-root, root), 2), (0, MOST))
        too_many(powered, "grains", MOST, (0, root + 1), 2)
        too_many(powered, "grains", MOST, (-root - 1, 0), 2)
        too_many(powered, "grains", MOST, (-2 ** 60, 0), 3)

    def test_limits(self):
        self.assertEqual(plus((0, MOST - 1), (0, 1)), (0, MOST))
        self.assertEqual(plus((-MOST, 0), (0, 0)), (-MOST, 0))
        too_many(plus, "grains", MOST, (0, MOST), (0, 1))
        too_many(plus, "grains", MOST, (-MOST, 0), (-1, 0))
        self.assertEqual(minus((0, 1), (1 - MOST, 0)), (0, MOST))
        too_many(minus, "grains", MOST, (0, 2), (1 - MOST, 0))
        too_many(minus, "grains", MOST, (-2, 0), (0, MOST - 1))
        self.assertEqual(times((0, 2 ** 55), (0, 2 ** 55)), (0, MOST))
        too_many(times, "grains", MOST, (0, 2 ** 55 + 1), (0, 2 ** 55))
        too_many(times, "grains", MOST, (-2 ** 55 - 1, 0), (0, 2 ** 55))
        self.assertEqual(over((0, 2 ** 30), (1, 1)), (0, MOST))
        too_many(over, "grains", MOST, (0, 2 ** 30 + 1), (1, 1))
        too_many(over, "grains", MOST, (0, 2 ** 30 + 1), (-1, -1))
        self.assertEqual(scaled((-MOST, MOST), (-1, 1)), (-MOST, MOST))
        too_many(scaled, "grains", MOST, (0, MOST // 2 + 1), (2, 1))
        too_many(scaled, "grains", MOST, (0, MOST), (-10 ** 39 - 1, 10 ** 39))

    def test_no_quotient(self):
        for other in [(0, 0), (0, 5), (-5, 0), (-1, 1)]:
            refuses(over, NoQuotient, {}, (MOST, MOST), other)

    def test_against_fractions(self):
        random = Random(2)
        for k in range(400):
            size = random.choice([9, ONE, 2 ** 50, 2 ** 54])
            one, other = some_interval(random, size), some_interval(random, size)
            sides = [(a, b) for a in ends(one) for b in ends(other)]
            self.assertEqual(plus(one, other), least([a + b for a, b in sides]))
            self.assertEqual(minus(one, other), least([a - b for a, b in sides]))
            self.assertEqual(times(one, other), least([a * b for a, b in sides]))
            factor = some_ratio(random, 99)
            products = [end * fraction(factor) for end in ends(one)]
            self.assertEqual(scaled(one, factor), least(products))
            if not other[0] <= 0 <= other[1]:
                found = [Fraction(a, b) for a, b in sides]
                if max(abs(number) for number in found) < 2 ** 30:
                    self.assertEqual(over(one, other), least(found))

    def test_powers_against_fractions(self):
        random = Random(3)
        for k in range(300):
            one, many = some_interval(random, 3 * ONE // 2), random.randint(1, 40)
            numbers = [end ** many for end in ends(one)]
            if one[0] <= 0 <= one[1] and many % 2 == 0:
                numbers.append(Fraction(0))
            self.assertEqual(powered(one, many), least(numbers))
