"""[41]: MATRICES."""

import unittest
from random import Random

from tests import reference
from tests.reference import fraction, ratio, some_ratio
from tests.support import MATRICES, MATRIX, ROW, check_calls, counts_wrong, refuses
from truecourse.errors import InvalidMany, InvalidMatrix, InvalidRow, NotSquare, UnlikeSizes
from truecourse.matrices import determinant, inverse, is_matrix, led, product, turned, unit_matrix

N, U, TWO = (0, 1), (1, 1), (2, 1)
SQUARE = ((U, TWO), (N, (1, 2)))
WIDE = ((U, TWO, N), (N, U, U))


def some_matrix(random, rows, places):
    return tuple(tuple(some_ratio(random, 4) for _ in range(places)) for _ in range(rows))


class TestMatrices(unittest.TestCase):
    def test_is_matrix(self):
        for value in [((N,),), WIDE, ((U,) * 8,) * 8, ((U,),) * 8, ((U,) * 8,)]:
            self.assertIs(is_matrix(value), True)
        for value in MATRICES:
            self.assertIs(is_matrix(value), False)

    def test_errors(self):
        check_calls(self, unit_matrix, [("many", 3, (InvalidMany, counts_wrong(1, 8)))])
        check_calls(self, product, [("matrix", SQUARE, MATRIX), ("other", WIDE, MATRIX)])
        check_calls(self, led, [("matrix", WIDE, MATRIX), ("row", (U, U, U), ROW)])
        for function in (turned, determinant, inverse):
            check_calls(self, function, [("matrix", SQUARE, MATRIX)])
        refuses(product, UnlikeSizes, {}, WIDE, SQUARE)
        refuses(product, InvalidMatrix, {"value": ()}, WIDE, ())
        refuses(led, UnlikeSizes, {}, WIDE, (U, U))
        refuses(led, InvalidRow, {"value": (U, None)}, WIDE, (U, None))
        for function in (determinant, inverse):
            refuses(function, NotSquare, {}, WIDE)
            refuses(function, NotSquare, {}, turned(WIDE))

    def test_unit(self):
        self.assertEqual(unit_matrix(1), ((U,),))
        self.assertEqual(unit_matrix(3), ((U, N, N), (N, U, N), (N, N, U)))

    def test_products(self):
        self.assertEqual(product(SQUARE, WIDE), ((U, (4, 1), TWO), (N, (1, 2), (1, 2))))
        self.assertEqual(turned(WIDE), ((U, N), (TWO, U), (N, U)))
        self.assertEqual(led(WIDE, (U, TWO, (-1, 2))), ((5, 1), (3, 2)))
        random = Random(13)
        for k in range(40):
            rows, inner, places = [random.randint(1, 8) for _ in range(3)]
            one, other = some_matrix(random, rows, inner), some_matrix(random, inner, places)
            told = product(one, other)
            for i in range(rows):
                for j in range(places):
                    total = sum(fraction(one[i][k]) * fraction(other[k][j]) for k in range(inner))
                    self.assertEqual(told[i][j], ratio(total))
            row = other and tuple(part[0] for part in other)
            self.assertEqual(led(one, row), tuple(part[0] for part in told))

    def test_determinants(self):
        random = Random(14)
        for k in range(60):
            many = 1 + k % 6
            matrix = some_matrix(random, many, many)
            if k % 3 == 0 and many > 1:
                matrix = matrix[:-1] + (matrix[0],)
            told = reference.determinant(reference.matrix(matrix))
            self.assertEqual(determinant(matrix), ratio(told))
            back = inverse(matrix)
            if told == 0:
                self.assertIs(back, None)
            else:
                self.assertEqual(product(matrix, back), unit_matrix(many))
                self.assertEqual(product(back, matrix), unit_matrix(many))

    def test_exchanges(self):
        self.assertEqual(determinant(((N, U), (U, N))), (-1, 1))
        self.assertEqual(determinant(((N, U, N), (N, N, U), (U, N, N))), (1, 1))
        self.assertEqual(inverse(((N, U), (U, N))), ((N, U), (U, N)))
        self.assertEqual(determinant(unit_matrix(8)), (1, 1))
        self.assertIs(inverse(((N,),)), None)
        self.assertEqual(inverse((((-2, 3),),)), (((-3, 2),),))
