"""[111], [112]: kept POLYS."""

import unittest
from fractions import Fraction
from itertools import product
from random import Random

from tests.courses import BOXES as STARTS, CLOCK, FADES, FALLS, KNOWN, STILL, THROWN, TURNS, starts, system, term
from tests.reference import fraction, some_interval, value
from tests.support import BOXES, MOST, ONE, POLYS, SYSTEM, check_calls, counts_wrong, refuses, too_many
from truecourse.errors import InvalidBox, InvalidDegree, InvalidPoly, NotKept
from truecourse.kept import is_kept, kept_polys, kept_range
from truecourse.polys import flow_slope, poly_plus, poly_scaled, poly_times
from truecourse.polytexts import parse_poly, poly_text
from truecourse.ranges import best_range

CIRCLE = (((0, 2), (1, 1)), ((2, 0), (1, 1)))
POLY = (InvalidPoly, POLYS + [(((1,), (1, 1)),), (((1, 0, 0), (1, 1)),)])
BOX = (InvalidBox, BOXES + [((0, 1),), ((0, 1),) * 3])
HUNTS = system("xy", [term(2, (1, 1), 0), term(2, (-1, 1), 0, 1)], [term(2, (-1, 1), 1), term(2, (1, 1), 0, 1)])
RIGID = system("xyz", [term(3, (1, 1), 1, 2)], [term(3, (-2, 1), 0, 2)], [term(3, (1, 1), 0, 1)])


def texts(own, degree):
    return [poly_text(poly, own[1]) for poly in kept_polys(own, degree)]


class TestKept(unittest.TestCase):
    def test_errors(self):
        check_calls(self, is_kept, [("system", TURNS, SYSTEM), ("poly", CIRCLE, POLY)])
        check_calls(self, kept_polys, [("system", TURNS, SYSTEM), ("degree", 2, (InvalidDegree, counts_wrong(1, 4)))])
        check_calls(self, kept_range, [("system", TURNS, SYSTEM), ("poly", CIRCLE, POLY), ("box", ((0, 1), (2, 3)), BOX)])
        refuses(kept_range, NotKept, {}, TURNS, CIRCLE[:1], ((0, 1), (2, 3)))
        refuses(kept_range, InvalidBox, {"value": None}, TURNS, CIRCLE[:1], None)

    def test_is_kept(self):
        for own, text, told in [
                (TURNS, "x^2 + y^2", True), (TURNS, "x^2", False), (TURNS, "x", False), (TURNS, "7", True), (TURNS, "0", True),
                (TURNS, "x^4 + 2*x^2*y^2 + y^4 - 3", True), (TURNS, "x^2 - y^2", False), (STILL, "x^8 - x", True), (CLOCK, "t", False),
                (FADES, "x*y", True), (FADES, "x^2*y^2 + x*y", True), (FADES, "x + y", False), (THROWN, "v^2 + 2*g*h", True),
                (THROWN, "g", True), (THROWN, "h", False), (FALLS, "x", False)]:
            self.assertIs(is_kept(own, parse_poly(text, own[1])), told, text)

    def test_beyond_degree_and_terms(self):
        # The flow slope on the way has a degree of 15, or more than 60 terms; that doesn't matter.
        high = system("xy", [((7, 1), (1, 1))], [((6, 2), (-1, 1))])
        self.assertIs(is_kept(high, (((4, 4), (1, 1)),)), True)
        self.assertIs(is_kept(high, (((4, 3), (1, 1)),)), False)

    def test_polys(self):
        self.assertEqual(kept_polys(TURNS, 1), [])
        self.assertEqual(kept_polys(TURNS, 2), [CIRCLE])
        self.assertEqual(kept_polys(TURNS, 3), [CIRCLE])
        self.assertEqual(texts(TURNS, 4), ["y^2 + x^2", "y^4 + 2*x^2*y^2 + x^4"])
        self.assertEqual(kept_polys(FALLS, 4), [])
        self.assertEqual(texts(STILL, 4), ["x", "x^2", "x^3", "x^4"])
        self.assertEqual(texts(FADES, 4), ["x*y", "x^2*y^2"])
        self.assertEqual(texts(THROWN, 2), ["g", "g^2", "v^2 + 2*h*g"])
        self.assertEqual(kept_polys(HUNTS, 4), [])
        self.assertEqual(texts(RIGID, 2), ["z^2 - x^2", "y^2 + 2*x^2"])
        still = ("system", ("x", "y"), ((), ()))
        self.assertEqual(texts(still, 2), ["y", "y^2", "x", "x*y", "x^2"])

    def test_basis(self):
        """Each is kept, begins with a 1 that no other one has; they are all there are."""
        random = Random(112)
        for k in range(40):
            letters = 1 + k % 3
            # Slopes that turn one poly's slopes about keep it: x' = H_y, y' = -H_x.
            own = RIGID if k % 4 == 3 else self.some_system(random, letters)
            degree = random.randint(1, 4 if letters < 3 else 3)
            told = kept_polys(own, degree)
            firsts = [poly[0] for poly in told]
            self.assertEqual(firsts, sorted(firsts))
            self.assertTrue(all(first[1] == (1, 1) for first in firsts))
            for poly in told:
                self.assertIs(is_kept(own, poly), True)
                self.assertTrue(all(0 < sum(exponents) <= degree for exponents, _ in poly))
                heads = [first[0] for first in firsts if first != poly[0]]
                self.assertFalse(any(exponents in heads for exponents, _ in poly))
            self.assertEqual(len(told), self.how_many(own, degree))

    def some_system(self, random, letters):
        polys = []
        for k in range(letters):
            found = {}
            for _ in range(random.randint(0, 2)):
                exponents = tuple(random.randint(0, 1) for _ in range(letters))
                found[exponents] = random.choice([(1, 1), (-1, 1), (2, 1)])
            polys.append(tuple(sorted(found.items())))
        return ("system", tuple("abc")[:letters], tuple(polys))

    def how_many(self, own, degree):
        """The number of terms less the rank of their flow slopes, by Python's own fractions."""
        letters = len(own[1])
        exponents = [e for e in product(range(degree + 1), repeat=letters) if 0 < sum(e) <= degree]
        rows = [dict(flow_slope(own, ((e, (1, 1)),))) for e in exponents]
        places = sorted({place for row in rows for place in row})
        rows = [[fraction(row.get(place, (0, 1))) for place in places] for row in rows]
        rank = 0
        for place in range(len(places)):
            found = next((k for k in range(rank, len(rows)) if rows[k][place]), None)
            if found is None:
                continue
            rows[rank], rows[found] = rows[found], rows[rank]
            for k in range(rank + 1, len(rows)):
                part = rows[k][place] / rows[rank][place]
                rows[k] = [a - part * b for a, b in zip(rows[k], rows[rank])]
            rank += 1
        return len(rows) - rank

    def test_terms(self):
        # Of 8 letters and the degree 2 there are 44 exponents, of 5 and 3 there are 55, of 4 and 4 there are 69.
        def still(letters):
            return ("system", tuple("abcdefgh")[:letters], ((),) * letters)
        for letters, degree, told in [(8, 2, 44), (5, 3, 55), (3, 4, 34), (4, 4, 69), (6, 3, 83), (8, 1, 8), (8, 3, 164)]:
            if told <= 60:
                self.assertEqual(len(kept_polys(still(letters), degree)), told)
            else:
                too_many(kept_polys, "terms", 60, still(letters), degree)

    def test_terms_of_slopes(self):
        # The slopes of 8 letters have so many unlike terms in all.
        def own(many):
            exponents = [e for e in product(range(2), repeat=8)][:many]
            polys = [tuple((e, (1, 1)) for e in exponents[9 * k:9 * k + 9]) for k in range(8)]
            return ("system", tuple("abcdefgh"), tuple(polys))
        self.assertEqual(texts(own(60), 1), ["h"])
        too_many(kept_polys, "terms", 60, own(61), 1)
        refuses(kept_polys, InvalidDegree, {"value": 5}, own(61), 5)

    def test_range(self):
        self.assertEqual(kept_range(TURNS, CIRCLE, ((0, 0), (ONE, ONE))), (ONE, ONE))
        random = Random(111)
        for _ in range(20):
            box = tuple(some_interval(random, 2 * ONE) for _ in range(2))
            self.assertEqual(kept_range(TURNS, CIRCLE, box), best_range(CIRCLE, box))
        too_many(kept_range, "grains", MOST, TURNS, CIRCLE, ((0, 2 ** 55 + 1), (0, 0)))
        refuses(kept_range, NotKept, {}, TURNS, CIRCLE[:1], ((0, 0), (0, 2 ** 55 + 1)))

    def test_values_never_change(self):
        random = Random(113)
        for name, text in [("turns", "x^2 + y^2"), ("fades", "x*y"), ("thrown", "v^2 + 2*g*h"), ("rated", "a"), ("still", "x^3")]:
            own, course = KNOWN[name]
            poly = parse_poly(text, own[1])
            self.assertIs(is_kept(own, poly), True)
            low, high = kept_range(own, poly, STARTS[name])
            for point in starts(STARTS[name], random, 3):
                for k in range(5):
                    worth = value(poly, course(point, Fraction(k, 3)))
                    self.assertLess(abs(worth - value(poly, point)), Fraction(1, 10 ** 50))
                    self.assertTrue(low - 1 <= worth * ONE <= high + 1)

    def test_sums_and_products_are_kept(self):
        square = poly_times(CIRCLE, CIRCLE)
        both = poly_plus(square, poly_scaled(CIRCLE, (-3, 7)))
        self.assertIs(is_kept(TURNS, both), True)
