"""[44] to [48]: AFFINE SETS."""

import unittest
from fractions import Fraction
from itertools import product
from random import Random

from tests.reference import ends, fraction, ratio, some_interval, some_ratio
from tests.support import (
    BOX, MATRIX, MOST, ONE, OTHERS, POINT, ROW, SET, SETS, check_calls, counts_wrong, refuses, too_many)
from tests.test_matrices import some_matrix
from truecourse.boxes import holds_point
from truecourse.errors import (
    InvalidBits, InvalidMatrix, InvalidPoint, InvalidRows, NoInverse, NotSquare, UnlikeSizes)
from truecourse.intervals import around, plus, scaled
from truecourse.matrices import determinant, unit_matrix
from truecourse.sets import (
    holds, is_set, moved_set, point_of, rounded_matrix, set_hull, set_of_box, set_within)

N, U, TWO = (0, 1), (1, 1), (2, 1)
HALF = (1, 2)
SLANTED = ("set", (U, N), ((U, U), (U, (-1, 1))), ((-ONE, ONE), (0, ONE)))
LINE = ("set", (N,), ((TWO,),), ((0, ONE),))


def some_square(random, many):
    while True:
        matrix = some_matrix(random, many, many)
        if determinant(matrix)[0] != 0:
            return matrix


def some_set(random, many):
    middle = tuple(some_ratio(random) for _ in range(many))
    box = tuple(some_interval(random, 2 * ONE) for _ in range(many))
    return ("set", middle, some_square(random, many), box)


def corner_points(affine):
    """The points of the set at the corners of its box."""
    _, middle, matrix, box = affine
    for corner in product(*[ends(interval) for interval in box]):
        yield tuple(
            ratio(fraction(m) + sum(fraction(a) * r for a, r in zip(row, corner)))
            for m, row in zip(middle, matrix))


class TestSets(unittest.TestCase):
    def test_is_set(self):
        eight = ("set", (N,) * 8, unit_matrix(8), ((0, 1),) * 8)
        for value in [SLANTED, LINE, eight]:
            self.assertIs(is_set(value), True)
        for value in SETS:
            self.assertIs(is_set(value), False)

    def test_errors(self):
        check_calls(self, set_of_box, [("box", ((0, 1), (2, 3)), BOX)])
        check_calls(self, set_hull, [("affine", SLANTED, SET)])
        check_calls(self, point_of, [("affine", SLANTED, SET), ("row", (U, U), ROW)])
        check_calls(self, holds, [("affine", SLANTED, SET), ("point", (U, U), POINT)])
        check_calls(self, set_within, [("affine", SLANTED, SET), ("other", SLANTED, SET)])
        check_calls(self, moved_set, [
            ("affine", SLANTED, SET), ("matrix", ((U, N), (N, TWO)), MATRIX), ("point", (U, U), POINT)])
        for function in (point_of, holds):
            refuses(function, UnlikeSizes, {}, SLANTED, (U,))
        refuses(set_within, UnlikeSizes, {}, SLANTED, LINE)

    def test_moved_errors(self):
        wide, high = ((U, N),), ((U, N), (N, U), (U, U))
        flat = ((U, TWO), (TWO, (4, 1)))
        for matrix, point, error in [
                (((U,),), (U, U), UnlikeSizes), (((U,),), (U,), UnlikeSizes),
                (unit_matrix(3), (U, U, U), UnlikeSizes), (wide, (U, U), UnlikeSizes), (flat, (U,), UnlikeSizes),
                (high, (U, U), UnlikeSizes), (wide, (U,), NotSquare), (high, (U, U, U), NotSquare),
                (flat, (U, U), NoInverse)]:
            refuses(moved_set, error, {}, SLANTED, matrix, point)
        refuses(moved_set, InvalidMatrix, {"value": ((),)}, SLANTED, ((),), None)
        refuses(moved_set, InvalidPoint, {"value": None}, SLANTED, ((U,),), None)

    def test_hull(self):
        self.assertEqual(set_hull(SLANTED), ((0, 3 * ONE), (-2 * ONE, ONE)))
        third = ("set", ((1, 3),), (((1, 3),),), ((1, 1),))
        self.assertEqual(set_hull(third), ((ONE // 3, ONE // 3 + 2),))
        edge = ("set", (N,), ((U,),), ((-MOST, MOST),))
        self.assertEqual(set_hull(edge), ((-MOST, MOST),))
        too_many(set_hull, "grains", MOST, ("set", (N,), ((TWO,),), ((0, MOST // 2 + 1),)))
        too_many(set_hull, "grains", MOST, ("set", ((2 ** 30 + 1, 1),), ((U,),), ((0, 0),)))
        # Of the parts, too, each must be within the bounds.
        one = ("set", ((-1, 1), N), ((U, U), (N, U)), ((0, MOST), (0, ONE)))
        too_many(set_hull, "grains", MOST, one)

    def test_hull_by_the_formula(self):
        random = Random(16)
        for k in range(60):
            own = some_set(random, 1 + k % 4)
            _, middle, matrix, box = own
            told = []
            for m, row in zip(middle, matrix):
                total = (0, 0)
                for interval, factor in zip(box, row):
                    total = plus(total, scaled(interval, factor))
                told.append(plus(around(m), total))
            self.assertEqual(set_hull(own), tuple(told))
            for point in corner_points(own):
                self.assertTrue(holds_point(set_hull(own), point))
                self.assertIs(holds(own, point), True)

    def test_points(self):
        self.assertEqual(point_of(SLANTED, (HALF, HALF)), (TWO, N))
        self.assertEqual(point_of(LINE, ((-3, 4),)), ((-3, 2),))
        self.assertIs(holds(LINE, (TWO,)), True)
        self.assertIs(holds(LINE, ((2 * ONE + 1, ONE),)), False)
        self.assertIs(holds(LINE, ((-1, 10 ** 30),)), False)
        self.assertIs(holds(SLANTED, (TWO, N)), True)
        self.assertIs(holds(SLANTED, ((3, 1), U)), False)

    def test_set_of_box(self):
        box = ((0, 3), (-4, -1), (2, 2))
        told = set_of_box(box)
        self.assertEqual(told, ("set", ((1, ONE), (-3, ONE), (1, ONE // 2)), unit_matrix(3),
                                ((-1, 2), (-1, 2), (0, 0))))
        self.assertEqual(set_hull(told), box)
        for box in [((-MOST, MOST),), ((-MOST, MOST - 1),), ((MOST, MOST),), ((-MOST, -MOST),)]:
            self.assertEqual(set_hull(set_of_box(box)), box)
            self.assertIs(is_set(set_of_box(box)), True)

    def test_moved(self):
        random = Random(17)
        for k in range(60):
            many = 1 + k % 3
            own, matrix = some_set(random, many), some_square(random, many)
            away = tuple(some_ratio(random) for _ in range(many))
            told = moved_set(own, matrix, away)
            self.assertIs(is_set(told), True)
            self.assertEqual(told[3], own[3])
            row = tuple(some_ratio(random) for _ in range(many))
            point = point_of(own, row)
            moved = point_of(("set", away, matrix, own[3]), point)
            self.assertEqual(point_of(told, row), moved)
            self.assertIs(holds(told, moved), holds(own, point))

    def test_within(self):
        hull = set_of_box(set_hull(SLANTED))
        self.assertIs(set_within(SLANTED, hull), True)
        self.assertIs(set_within(hull, SLANTED), False)
        self.assertIs(set_within(SLANTED, SLANTED), True)
        random = Random(18)
        seen = set()
        for k in range(150):
            many = 1 + k % 3
            one, other = some_set(random, many), some_set(random, many)
            if k % 2:
                wide = tuple((-30 * ONE - random.randint(0, 90 * ONE), 90 * ONE) for _ in range(many))
                other = other[:3] + (wide,)
            # A set is within a convex one just if its corners are.
            told = all(holds(other, point) for point in corner_points(one))
            self.assertIs(set_within(one, other), told)
            seen.add(told)
        self.assertEqual(seen, {True, False})

    def test_within_is_exact(self):
        wide = ("set", (N,), (((1, 3),),), ((0, 3 * ONE),))
        for box, told in [((0, ONE), True), ((0, ONE - 1), False), ((1, ONE), False)]:
            self.assertIs(set_within(wide, ("set", (N,), ((U,),), (box,))), told)
        turned = ("set", (N,), (((-1, 3),),), ((0, 3 * ONE),))
        self.assertIs(set_within(turned, ("set", (N,), ((U,),), ((-ONE, 0),))), True)
        self.assertIs(set_within(turned, ("set", (N,), ((U,),), ((1 - ONE, 0),))), False)


class TestRounded(unittest.TestCase):
    def test_errors(self):
        good = (((0, 1), (2, 3)),)
        rows = OTHERS + [
            3, "x", (), [((0, 1),)], ((),), ([(0, 1)],), (((0, 1),), ((0, 1), (1, 2))), (((1, 0),),),
            (((True, 2),),), (((0, 1),) * 9,), (((0, 1),),) * 9, ((0, 1),), (((0, 1),), None),
            (((0, MOST + 1),),)]
        check_calls(self, rounded_matrix, [
            ("rows", good, (InvalidRows, rows)), ("bits", 3, (InvalidBits, counts_wrong(0, 40)))])

    def test_nearest(self):
        for interval, bits, told in [
                ((ONE, 2 * ONE), 0, (2, 1)), ((-2 * ONE, -ONE), 0, (-1, 1)), ((0, 2 * ONE), 1, (1, 1)),
                ((0, ONE // 2), 1, (1, 2)), ((0, ONE // 2 - 1), 1, (0, 1)), ((-1, 1), 40, (0, 1)),
                ((0, 1), 40, (1, ONE)), ((-1, 0), 40, (0, 1)), ((3, 3), 40, (3, ONE)),
                ((ONE // 2, ONE // 2), 0, (1, 1)), ((-ONE // 2, -ONE // 2), 0, (0, 1))]:
            self.assertEqual(rounded_matrix(((interval,),), bits), ((told,),))

    def test_many(self):
        random = Random(19)
        for _ in range(60):
            rows, places, bits = random.randint(1, 8), random.randint(1, 8), random.randint(0, 40)
            matrix = tuple(tuple(some_interval(random, 9 * ONE) for _ in range(places)) for _ in range(rows))
            told = rounded_matrix(matrix, bits)
            for row, own in zip(matrix, told):
                for (low, high), part in zip(row, own):
                    middle = Fraction(low + high, 2 * ONE) * 2 ** bits
                    nearest = fraction(part) * 2 ** bits
                    self.assertEqual(nearest.denominator, 1)
                    self.assertTrue(nearest - Fraction(1, 2) <= middle < nearest + Fraction(1, 2))
