"""[42], [43]: reduced rows, kernels and solutions."""

import unittest
from random import Random

from tests.support import MATRIX, ROW, check_calls, refuses
from tests.test_matrices import some_matrix
from truecourse.errors import InvalidRow, UnlikeSizes
from truecourse.kernels import kernel, rank, reduced, solved
from truecourse.matrices import led, product, turned, unit_matrix

N, U, TWO = (0, 1), (1, 1), (2, 1)
FLAT = ((U, TWO, U),)


def head(row):
    return [part[0] != 0 for part in row].index(True)


class TestKernels(unittest.TestCase):
    def test_errors(self):
        for function in (reduced, rank, kernel):
            check_calls(self, function, [("matrix", FLAT, MATRIX)])
        check_calls(self, solved, [("matrix", FLAT, MATRIX), ("row", (U,), ROW)])
        refuses(solved, UnlikeSizes, {}, FLAT, (U, U, U))
        refuses(solved, InvalidRow, {"value": None}, FLAT, None)

    def test_edges(self):
        nothing = ((N, N), (N, N))
        self.assertEqual([reduced(nothing), rank(nothing)], [[], 0])
        self.assertEqual(kernel(nothing), [(U, N), (N, U)])
        self.assertEqual(kernel(unit_matrix(8)), [])
        self.assertEqual(reduced(unit_matrix(8)), list(unit_matrix(8)))
        self.assertEqual(solved(nothing, (N, N)), (N, N))
        self.assertIs(solved(nothing, (N, U)), None)
        self.assertEqual(solved(((N, TWO, TWO),), ((3, 1),)), (N, (3, 2), N))
        self.assertEqual(reduced(((N, TWO, TWO), (N, U, U))), [(N, U, U)])
        told = reduced(FLAT)
        told.append(None)
        self.assertEqual(reduced(FLAT), [(U, TWO, U)])

    def check_reduced(self, rows):
        heads = [head(row) for row in rows]
        self.assertEqual(heads, sorted(set(heads)))
        for k, row in enumerate(rows):
            self.assertEqual(row[heads[k]], U)
            for j, other in enumerate(rows):
                if j != k:
                    self.assertEqual(other[heads[k]], N)

    def test_many(self):
        random = Random(15)
        for k in range(80):
            rows, places = random.randint(1, 8), random.randint(1, 8)
            thin = random.randint(1, min(rows, places))
            matrix = product(some_matrix(random, rows, thin), some_matrix(random, thin, places))
            told = reduced(matrix)
            self.check_reduced(told)
            self.assertEqual(rank(matrix), len(told))
            # The rows are sums of the reduced ones, at whose heads the multiples stand.
            for row in matrix:
                self.assertEqual(solved(turned(tuple(told)), row) if told else N, tuple(
                    row[head(own)] for own in told) if told else N)
                self.assertTrue(told or set(row) == {N})
            self.assertTrue(len(told) <= thin)
            free = kernel(matrix)
            self.check_reduced(free)
            self.assertEqual(len(free), places - len(told))
            for row in free:
                self.assertEqual(led(matrix, row), (N,) * rows)
            self.check_solution(random, matrix, told)

    def check_solution(self, random, matrix, told):
        rows, places = len(matrix), len(matrix[0])
        some = tuple(part[0] for part in some_matrix(random, places, 1))
        row = led(matrix, some)
        found = solved(matrix, row)
        self.assertEqual(led(matrix, found), row)
        heads = [head(own) for own in told]
        self.assertTrue(all(found[j] == N for j in range(places) if j not in heads))
        if len(told) < rows:
            other = solved(matrix, tuple(part[0] for part in some_matrix(random, rows, 1)))
            self.assertTrue(other is None or len(other) == places)

    def test_none(self):
        self.assertIs(solved(((U, U), (TWO, TWO), (N, U)), (U, U, U)), None)
        self.assertEqual(solved(((U, U), (TWO, TWO), (N, U)), (U, TWO, U)), (N, U))
