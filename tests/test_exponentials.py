"""[51] to [54]: exp and log."""

import unittest
from fractions import Fraction
from math import factorial
from random import Random

from tests import decimals
from tests.reference import fraction, ratio
from tests.support import INTERVAL, ONE, RATIO, check_calls, counts_wrong, refuses
from truecourse.errors import InvalidMany, InvalidRatio, NotThere
from truecourse.exponentials import exp_between, exp_of, log_between, log_of
from truecourse.intervals import is_interval

MANY = ("many", 3, (InvalidMany, counts_wrong(1, 12)))
EXP_END = 16 * ONE
LOG_ENDS = (ONE // 65536, 65536 * ONE)


class TestSums(unittest.TestCase):
    def test_errors(self):
        for function in (exp_between, log_between):
            check_calls(self, function, [("ratio", (1, 1), RATIO), MANY])
            refuses(function, InvalidRatio, {"value": 9}, 9, 0)
            refuses(function, InvalidMany, {"value": 13}, (99, 1), 13)
        for x in [(10 ** 30 + 1, 10 ** 30), (-3, 2)]:
            refuses(exp_between, NotThere, {}, x, 3)
        for x in [(10 ** 30 - 1, 2 * 10 ** 30), (2 * 10 ** 30 + 1, 10 ** 30), (0, 1), (-1, 1)]:
            refuses(log_between, NotThere, {}, x, 3)

    def test_by_hand(self):
        self.assertEqual(exp_between((1, 2), 3), ((19, 12), (5, 3)))
        self.assertEqual(exp_between((-1, 1), 1), ((-1, 1), (3, 1)))
        self.assertEqual(exp_between((0, 1), 1), ((1, 1), (1, 1)))
        self.assertEqual(log_between((2, 1), 1), ((23, 36), (25, 36)))
        self.assertEqual(log_between((1, 2), 1), ((-25, 36), (-23, 36)))
        self.assertEqual(log_between((1, 1), 12), ((0, 1), (0, 1)))

    def test_formulas(self):
        random = Random(20)
        for k in range(120):
            many = 1 + k % 12
            x = Fraction(random.randint(-99, 99), 99)
            total = sum(x ** j / factorial(j) for j in range(many))
            rest = 2 * abs(x) ** many / factorial(many)
            self.assertEqual(exp_between(ratio(x), many), (ratio(total - rest), ratio(total + rest)))
            x = Fraction(random.randint(50, 200), 100)
            u = (x - 1) / (x + 1)
            total = 2 * sum(u ** (2 * j + 1) / (2 * j + 1) for j in range(many))
            rest = Fraction(9, 4) * abs(u) ** (2 * many + 1) / (2 * many + 1)
            self.assertEqual(log_between(ratio(x), many), (ratio(total - rest), ratio(total + rest)))

    def test_values_lie_between(self):
        for x, call, function in [((1, 1), exp_between, decimals.exp), ((3, 2), log_between, decimals.log)]:
            value = Fraction(function(decimals.Decimal(x[0]) / x[1]))
            for many in range(1, 13):
                low, high = map(fraction, call(x, many))
                self.assertTrue(low <= value <= high)
            self.assertTrue(high - low < Fraction(1, 10 ** 7))


class TestIntervals(unittest.TestCase):
    def test_errors(self):
        for function in (exp_of, log_of):
            check_calls(self, function, [("interval", (ONE, 2 * ONE), INTERVAL)])
        for interval in [(0, EXP_END + 1), (-EXP_END - 1, 0), (EXP_END + 1, EXP_END + 1)]:
            refuses(exp_of, NotThere, {}, interval)
        for interval in [(LOG_ENDS[0] - 1, ONE), (ONE, LOG_ENDS[1] + 1), (0, 0), (-ONE, ONE)]:
            refuses(log_of, NotThere, {}, interval)

    def check(self, call, function, interval):
        told = call(interval)
        self.assertIs(is_interval(told), True)
        exact = decimals.least([function(decimals.number(end)) for end in interval])
        self.assertTrue(decimals.is_near(told, exact), (call, interval, told, exact))

    def test_exp(self):
        for interval in [(0, 0), (EXP_END, EXP_END), (-EXP_END, -EXP_END), (-EXP_END, EXP_END),
                         (1, 1), (-1, -1), (ONE, ONE), (-1, 1), (ONE // 2, ONE // 2 + 1)]:
            self.check(exp_of, decimals.exp, interval)
        random = Random(21)
        for _ in range(60):
            ends = sorted(random.randint(-EXP_END, EXP_END) for _ in range(2))
            self.check(exp_of, decimals.exp, tuple(ends))

    def test_log(self):
        low, high = LOG_ENDS
        for interval in [(ONE, ONE), LOG_ENDS, (low, low), (high, high), (ONE - 1, ONE + 1),
                         (2 * ONE, 4 * ONE), (4 * ONE // 3, 4 * ONE // 3 + 1), (2 * ONE // 3,) * 2]:
            self.check(log_of, decimals.log, interval)
        self.assertEqual(log_of((ONE, ONE)), (0, 0))
        random = Random(22)
        for _ in range(60):
            ends = sorted(random.randint(low, 2 ** random.randint(25, 56)) for _ in range(2))
            self.check(log_of, decimals.log, tuple(ends))
