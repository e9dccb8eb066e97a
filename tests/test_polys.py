"""[6], [21] to [25]: POLYS and SYSTEMS."""

import unittest
from fractions import Fraction
from random import Random

from tests import reference
from tests.reference import fraction, poly, some_poly, some_ratio
from tests.support import (
    MANY_TERMS, OTHERS, POINTS, POLY, POLYS, RATIO, SYSTEM, SYSTEMS, check_calls, counts_wrong,
    refuses, too_many)
from truecourse.errors import (
    InvalidMany, InvalidPoint, InvalidPoly, InvalidPolys, InvalidPosition, InvalidTerms,
    UnlikeLetters)
from truecourse.polys import (
    degree, flow_slope, is_name, is_poly, is_system, poly_of, poly_plus, poly_scaled, poly_times,
    put_polys, shifted, slope, system_slope_at, value_at)

X = (((1,), (1, 1)),)
XY = (((0, 1), (1, 1)), ((1, 0), (1, 1)))
SIXTY = MANY_TERMS[:60]
EIGHT = (((1,) * 8, (1, 2)),)
TURN = ("system", ("x", "y"), ((((0, 1), (-1, 1)),), (((1, 0), (1, 1)),)))
MANY = (InvalidMany, counts_wrong(1, 8))
POINT = (InvalidPoint, POINTS + [((1, 2),) * 3])


class TestKinds(unittest.TestCase):
    def test_names(self):
        for value in ["x", "a1", "x" * 12, "lette", "letters", "tos", "exp1", "z0123456789a"]:
            self.assertIs(is_name(value), True, value)
        words = ["letter", "slope", "given", "time", "to", "exp", "log", "sin", "cos", "root"]
        for value in words + OTHERS + [
                "", "1", "1x", "X", "xY", "x" * 13, "x y", " x", "x_", "x-", ("x",), ["x"], 3]:
            self.assertIs(is_name(value), False, value)

    def test_polys(self):
        good = [(1, X), (1, ()), (8, ()), (2, XY), (3, SIXTY), (8, EIGHT),
                (1, (((8,), (10 ** 50, 3)),)), (2, (((4, 4), (-1, 2)),))]
        for many, value in good:
            self.assertIs(is_poly(many, value), True)
        for value in POLYS:
            for many in (1, 2, 3, 8):
                if not (many == 2 and value == (((0, 1), (1, 1)),)):
                    self.assertIs(is_poly(many, value), False)
        for many, value in [(2, X), (1, XY), (3, MANY_TERMS[:61]), (7, EIGHT), (1, list(X))]:
            self.assertIs(is_poly(many, value), False)
        for many in MANY[1]:
            refuses(is_poly, InvalidMany, {"value": many}, many, X)

    def test_systems(self):
        wide = ("system", tuple("abcdefgh"), (EIGHT,) + ((),) * 7)
        for value in [TURN, ("system", ("x",), ((),)), wide]:
            self.assertIs(is_system(value), True)
        for value in SYSTEMS:
            self.assertIs(is_system(value), False)


class TestErrors(unittest.TestCase):
    def test_poly_of(self):
        pair = ((1, 0), (1, 2))
        bad = [None, [pair, None], [((1,), (1, 2))], [((1, True), (1, 2))], [([1, 0], (1, 2))],
               [[(1, 0), (1, 2)]], [((5, 4), (1, 1))], [((-1, 0), (1, 1))], [((1, 0), (2, 4))],
               [((1, 0), (True, 1))], [pair] * 201, "ab", {}, 3, True, [pair + (1,)], pair]
        check_calls(self, poly_of, [
            ("many", 2, MANY), ("terms", [pair, pair], (InvalidTerms, bad))])
        self.assertEqual(poly_of(2, (pair,) * 200), (((1, 0), (100, 1)),))
        self.assertEqual(poly_of(2, []), ())
        self.assertEqual(poly_of(2, [((1, 0), (0, 1))]), ())
        self.assertEqual(poly_of(3, list(SIXTY)[::-1]), SIXTY)
        too_many(poly_of, "terms", 60, 3, list(MANY_TERMS[:61]))

    def test_two_polys(self):
        for function in (poly_plus, poly_times):
            check_calls(self, function, [("poly", XY, POLY), ("other", XY, POLY)])
            refuses(function, UnlikeLetters, {}, X, XY)
            refuses(function, InvalidPoly, {"value": 3}, X, 3)
            function(X, ()), function((), XY), function((), ())

    def test_one_poly(self):
        check_calls(self, degree, [("poly", XY, POLY)])
        check_calls(self, poly_scaled, [("poly", XY, POLY), ("ratio", (1, 2), RATIO)])
        position = ("position", 1, (InvalidPosition, counts_wrong(0, 1)))
        check_calls(self, slope, [("poly", XY, POLY), position])
        position = ("position", 7, (InvalidPosition, counts_wrong(0, 7)))
        check_calls(self, slope, [("poly", (), POLY), position])
        for function in (value_at, shifted):
            point = ("point", ((1, 2), (3, 1)), POINT)
            check_calls(self, function, [("poly", XY, POLY), point])
            for many in range(1, 9):
                function((), ((1, 2),) * many)
            refuses(function, InvalidPoint, {"value": ()}, (), ())
            refuses(function, InvalidPoint, {"value": ((1, 1),) * 9}, (), ((1, 1),) * 9)

    def test_put_polys(self):
        bad = [None, [X], [X, X, X], [X, XY], [X, None], "ab", [], {}, True, [X, list(X)],
               [(((True,), (1, 1)),), X], [(((9,), (1, 1)),), X]]
        check_calls(self, put_polys, [("poly", XY, POLY), ("polys", [X, X], (InvalidPolys, bad))])
        self.assertEqual(put_polys(EIGHT, [X] * 8), (((8,), (1, 2)),))
        self.assertEqual(put_polys((), [X] * 8), ())
        bad = [[], [X] * 9, [X, XY], None]
        check_calls(self, put_polys, [("poly", (), POLY), ("polys", (X, ()), (InvalidPolys, bad))])

    def test_systems(self):
        wrong = (InvalidPoly, POLYS + [X])
        check_calls(self, flow_slope, [("system", TURN, SYSTEM), ("poly", XY, wrong)])
        point = ("point", ((1, 2), (3, 1)), POINT)
        check_calls(self, system_slope_at, [("system", TURN, SYSTEM), point])

    def test_limits(self):
        x4 = (((4,), (1, 1)),)
        self.assertEqual(poly_times(x4, x4), (((8,), (1, 1)),))
        too_many(poly_times, "degree", 8, x4, (((5,), (1, 1)),))
        # The degree comes ahead of the terms.
        too_many(poly_times, "degree", 8, SIXTY, (((1, 0, 0), (1, 1)), ((0, 0, 8), (1, 1)))[::-1])
        low = tuple(term for term in MANY_TERMS if sum(term[0]) <= 4)
        too_many(poly_times, "terms", 60, low, low)
        self.assertEqual(len(poly_plus(SIXTY, SIXTY)), 60)
        too_many(poly_plus, "terms", 60, SIXTY, MANY_TERMS[60:61])
        self.assertEqual(poly_plus(SIXTY, poly_scaled(SIXTY, (-1, 1))), ())
        fast = ("system", ("x",), ((((2,), (1, 1)),),))
        self.assertEqual(flow_slope(fast, (((7,), (1, 1)),)), (((8,), (7, 1)),))
        too_many(flow_slope, "degree", 8, fast, (((8,), (1, 1)),))
        wide = ("system", ("x", "y", "z"), (low, (), ()))
        too_many(flow_slope, "terms", 60, wide, low)
        too_many(shifted, "terms", 60, (((2, 2, 2, 2), (1, 1)),), ((1, 1),) * 4)
        self.assertEqual(len(shifted((((2, 2, 2, 1), (1, 1)),), ((1, 1),) * 4)), 54)


class TestPutting(unittest.TestCase):
    def test_letters(self):
        five = (((0, 0), (5, 1)), ((1, 1), (1, 1)))
        self.assertEqual(put_polys(five, [(), ()]), (((0, 0), (5, 1)),))
        self.assertEqual(put_polys(five, [(), X]), (((0,), (5, 1)),))
        self.assertEqual(put_polys(five, (X, X)), (((0,), (5, 1)), ((2,), (1, 1))))
        self.assertEqual(put_polys((), [X]), ())
        self.assertEqual(put_polys((((0,), (5, 1)),), [EIGHT]), (((0,) * 8, (5, 1)),))

    def test_degree(self):
        x9 = [(((3,), (1, 1)),)]
        too_many(put_polys, "degree", 8, (((3,), (1, 1)),), x9)
        self.assertEqual(put_polys((((2,), (1, 1)),), x9), (((6,), (1, 1)),))
        # Terms of a high degree may go against each other.
        apart = (((0, 2), (-1, 1)), ((2, 0), (1, 1)))
        six = (((6,), (1, 1)),)
        self.assertEqual(put_polys(apart, [six, six]), ())
        more = (((0,), (1, 1)), ((5,), (1, 1)))
        less = (((0,), (-1, 1)), ((5,), (1, 1)))
        self.assertEqual(put_polys(apart, [more, less]), (((5,), (4, 1)),))
        too_many(put_polys, "degree", 8, apart, [more, (((4,), (1, 1)), ((5,), (1, 1)))])

    def test_huge(self):
        # Multiplied out these have very many terms: none of them is needed.
        wide = tuple((tuple(int(j == k) * 8 for j in range(8)), (1, 1)) for k in range(7, -1, -1))
        too_many(put_polys, "degree", 8, (((8,), (1, 1)),), [wide])
        too_many(put_polys, "degree", 8, (((0, 8), (2, 1)), ((8, 0), (1, 1))), [wide, wide])

    def test_zero_puts(self):
        high = (((0, 1), (1, 1)), ((7, 1), (1, 1)))
        self.assertEqual(put_polys(high, [(((8,), (1, 1)),), ()]), ())
        self.assertEqual(put_polys(high, [(), (((8,), (1, 1)),)]), (((8,), (1, 1)),))

    def test_terms(self):
        low = tuple(term for term in MANY_TERMS if sum(term[0]) <= 4)
        too_many(put_polys, "terms", 60, (((2,), (1, 1)),), [low])


class TestAgainstFractions(unittest.TestCase):
    def setUp(self):
        self.random = Random(4)

    def triple(self, letters, terms=6, degree=4):
        return [some_poly(self.random, letters, terms, degree) for _ in range(3)]

    def test_sums_and_products(self):
        for k in range(150):
            one, other, _ = self.triple(1 + k % 4)
            both = reference.table(one)
            for exponents, number in reference.table(other).items():
                both[exponents] = both.get(exponents, 0) + number
            self.assertEqual(poly_plus(one, other), poly(both))
            found = reference.times(reference.table(one), reference.table(other))
            self.assertEqual(poly_times(one, other), poly(found))
            factor = some_ratio(self.random)
            scaled = {e: c * fraction(factor) for e, c in reference.table(one).items()}
            self.assertEqual(poly_scaled(one, factor), poly(scaled))
            self.assertEqual(poly_of(1 + k % 4, list(one + other)), poly(both))
            self.assertEqual(degree(one), max([sum(e) for e, _ in one], default=0))

    def test_values(self):
        for k in range(150):
            letters = 1 + k % 4
            own = some_poly(self.random, letters, 8, 8)
            point = tuple(some_ratio(self.random) for _ in range(letters))
            told = reference.value(own, [fraction(part) for part in point])
            self.assertEqual(value_at(own, point), reference.ratio(told))
            away = tuple(some_ratio(self.random) for _ in range(letters))
            both = [fraction(a) + fraction(b) for a, b in zip(point, away)]
            low = some_poly(self.random, letters, 8, 3)
            told = reference.ratio(reference.value(low, both))
            self.assertEqual(value_at(shifted(low, away), point), told)

    def test_slopes(self):
        for k in range(100):
            letters = 1 + k % 3
            own, other, _ = self.triple(letters)
            for position in range(letters):
                found = {}
                for exponents, number in reference.table(own).items():
                    if exponents[position]:
                        less = list(exponents)
                        less[position] -= 1
                        found[tuple(less)] = number * exponents[position]
                self.assertEqual(slope(own, position), poly(found))
                product = poly_times(own, other)
                sides = poly_plus(poly_times(slope(own, position), other),
                                  poly_times(own, slope(other, position)))
                self.assertEqual(slope(product, position), sides)

    def test_putting(self):
        for k in range(80):
            letters, others = 1 + k % 3, 1 + k % 2
            own = some_poly(self.random, letters, 5, 3)
            puts = [some_poly(self.random, others, 3, 2) for _ in range(letters)]
            count = others if any(puts) else letters
            self.assertEqual(put_polys(own, puts), reference.put(own, puts, count))

    def test_flow(self):
        for k in range(60):
            letters = 1 + k % 3
            polys = tuple(some_poly(self.random, letters, 3, 3) for _ in range(letters))
            system = ("system", tuple("xyz"[:letters]), polys)
            own = some_poly(self.random, letters, 4, 4)
            total = ()
            for position in range(letters):
                total = poly_plus(total, poly_times(slope(own, position), polys[position]))
            self.assertEqual(flow_slope(system, own), total)
            point = tuple(some_ratio(self.random) for _ in range(letters))
            told = tuple(value_at(part, point) for part in polys)
            self.assertEqual(system_slope_at(system, point), told)

    def test_zero_to_the_nothing(self):
        self.assertEqual(value_at((((0, 2), (3, 1)),), ((0, 1), (1, 1))), (3, 1))
        self.assertEqual(value_at((), ((1, 2),)), (0, 1))
        self.assertEqual(Fraction(0) ** 0, 1)
