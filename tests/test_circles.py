"""[51] to [54]: sine and cosine."""

import unittest
from fractions import Fraction
from math import ceil, factorial, floor
from random import Random

from tests import decimals
from tests.reference import ratio
from tests.support import INTERVAL, ONE, RATIO, check_calls, counts_wrong, refuses
from truecourse.circles import cosine_between, cosine_of, sine_between, sine_of
from truecourse.errors import InvalidMany, NotThere

MANY = ("many", 3, (InvalidMany, counts_wrong(1, 12)))
END = 64 * ONE
PI = decimals.pi()


def places(quarter):
    """The numbers of grains, not whole ones, so many quarters behind whole turns."""
    return [(4 * k + quarter) * PI / 2 * ONE for k in range(-11, 12)
            if abs((4 * k + quarter) * PI / 2) < 64]


def exact_values(function, interval, top, bottom):
    """The least interval, the places of 1 and -1 told by the quarters where they are."""
    low, high = decimals.least([function(decimals.number(end)) for end in interval])
    if any(interval[0] <= place <= interval[1] for place in places(top)):
        high = ONE
    if any(interval[0] <= place <= interval[1] for place in places(bottom)):
        low = -ONE
    return (low, high)


class TestSums(unittest.TestCase):
    def test_errors(self):
        for function in (sine_between, cosine_between):
            check_calls(self, function, [("ratio", (1, 1), RATIO), MANY])
            for x in [(10 ** 30 + 1, 10 ** 30), (-3, 2)]:
                refuses(function, NotThere, {}, x, 3)
            refuses(function, InvalidMany, {"value": 0}, (3, 1), 0)

    def test_by_hand(self):
        self.assertEqual(sine_between((1, 2), 1), ((23, 48), (25, 48)))
        self.assertEqual(sine_between((-1, 1), 1), ((-7, 6), (-5, 6)))
        self.assertEqual(cosine_between((1, 2), 2), ((335, 384), (337, 384)))
        self.assertEqual(cosine_between((-1, 1), 1), ((1, 2), (3, 2)))
        self.assertEqual(sine_between((0, 1), 5), ((0, 1), (0, 1)))
        self.assertEqual(cosine_between((0, 1), 1), ((1, 1), (1, 1)))

    def test_formulas(self):
        random = Random(23)
        for k in range(120):
            n = 1 + k % 12
            x = Fraction(random.randint(-99, 99), 99)
            total = sum((-1) ** j * x ** (2 * j + 1) / factorial(2 * j + 1) for j in range(n))
            rest = abs(x) ** (2 * n + 1) / factorial(2 * n + 1)
            self.assertEqual(sine_between(ratio(x), n), (ratio(total - rest), ratio(total + rest)))
            total = sum((-1) ** j * x ** (2 * j) / factorial(2 * j) for j in range(n))
            rest = x ** (2 * n) / factorial(2 * n)
            self.assertEqual(cosine_between(ratio(x), n), (ratio(total - rest), ratio(total + rest)))


class TestIntervals(unittest.TestCase):
    def test_errors(self):
        for function in (sine_of, cosine_of):
            check_calls(self, function, [("interval", (-ONE, ONE), INTERVAL)])
            for interval in [(0, END + 1), (-END - 1, 0), (END + 1, END + 1)]:
                refuses(function, NotThere, {}, interval)

    def check(self, interval):
        for call, function, top, bottom in [(sine_of, decimals.sine, 1, 3), (cosine_of, decimals.cosine, 0, 2)]:
            told = call(interval)
            exact = exact_values(function, interval, top, bottom)
            self.assertTrue(decimals.is_near(told, exact), (call, interval, told, exact))
            self.assertTrue(-ONE <= told[0] and told[1] <= ONE)

    def test_edges(self):
        for interval in [(0, 0), (END, END), (-END, -END), (-END, END), (0, 8 * ONE), (-1, 1),
                         (1, 1), (-1, -1), (0, ONE), (-ONE, 0), (3 * ONE, 4 * ONE)]:
            self.check(interval)
        self.assertEqual(sine_of((-END, END)), (-ONE, ONE))
        self.assertEqual(cosine_of((0, 0))[1], ONE)

    def test_just_within_and_outside(self):
        for quarter in range(4):
            for place in places(quarter):
                below, above = floor(place), ceil(place)
                for interval in [(below, above), (below, below), (above, above), (below - 9, below),
                                 (above, above + 9), (below - ONE, above), (above, above + ONE)]:
                    if abs(interval[0]) <= END and abs(interval[1]) <= END:
                        self.check(interval)

    def test_far_from_the_top(self):
        # From 2 to 4 sine falls: neither 1 nor -1 may be told.
        low, high = sine_of((2 * ONE, 4 * ONE))
        self.assertTrue(-ONE < low < 0 < high < ONE)

    def test_many(self):
        random = Random(24)
        for k in range(150):
            begin = random.randint(-END, END - 4 * ONE)
            length = random.choice([0, 9, ONE // 2, 2 * ONE, 4 * ONE])
            self.check((begin, begin + random.randint(0, length)))
