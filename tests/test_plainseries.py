"""[71]: the plain series."""

import unittest
from random import Random

from tests.courses import BURSTS, GROWS, TURNS
from tests.reference import fraction, poly as poly_from, some_poly, table, times
from tests.support import SYSTEM, check_calls, counts_wrong, too_many
from truecourse.errors import InvalidMany
from truecourse.plainseries import plain_series

MANY = (InvalidMany, counts_wrong(1, 9))


def flow(system, poly):
    found = {}
    for k, own in enumerate(system[2]):
        for exponents, number in poly:
            if exponents[k]:
                less = exponents[:k] + (exponents[k] - 1,) + exponents[k + 1:]
                part = times({less: fraction(number) * exponents[k]}, table(own))
                for e, c in part.items():
                    found[e] = found.get(e, 0) + c
    return found


class TestPlainSeries(unittest.TestCase):
    def test_errors(self):
        check_calls(self, plain_series, [("system", TURNS, SYSTEM), ("many", 3, MANY)])

    def test_examples(self):
        x = (((1,), (1, 1)),)
        self.assertEqual(plain_series(GROWS, 1), [[x]])
        self.assertEqual(plain_series(GROWS, 4), [[x, x, (((1,), (1, 2)),), (((1,), (1, 6)),)]])
        self.assertEqual(plain_series(BURSTS, 9)[0], [(((k + 1,), (1, 1)),) for k in range(9)])
        still = ("system", ("x", "y"), ((), (((1, 0), (1, 1)),)))
        self.assertEqual(plain_series(still, 3), [
            [(((1, 0), (1, 1)),), (), ()], [(((0, 1), (1, 1)),), (((1, 0), (1, 1)),), ()]])

    def test_by_flows(self):
        random = Random(71)
        for k in range(25):
            letters = 1 + k % 3
            system = ("system", tuple("abc")[:letters], tuple(some_poly(random, letters, 3, 3) for _ in range(letters)))
            told = plain_series(system, 4)
            for row in told:
                for n in range(3):
                    wanted = {e: c / (n + 1) for e, c in flow(system, row[n]).items()}
                    self.assertEqual(row[n + 1], poly_from(wanted))

    def test_lists_are_new(self):
        told = plain_series(GROWS, 2)
        told[0].append(None)
        self.assertEqual(len(plain_series(GROWS, 2)[0]), 2)

    def test_degrees_go_beyond(self):
        high = ("system", ("x",), ((((8,), (1, 1)),),))
        self.assertEqual(plain_series(high, 3)[0][2], (((15,), (4, 1)),))
        self.assertEqual(plain_series(high, 9)[0][8][0][0], (57,))

    def test_terms(self):
        self.assertEqual(len(plain_series(wide_system(False), 9)[0][2]), 400)
        self.assertEqual(len(plain_series(wide_system(True), 2)[0][1]), 21)
        too_many(plain_series, "terms", 400, wide_system(True), 3)
        too_many(plain_series, "terms", 400, wide_system(True), 9)


def wide_system(is_wider):
    """a' is b times 20 terms, b' has 20 others: of a the second coefficient has 400, or one more."""
    pairs = [(i, j) for i in range(6) for j in range(6) if i + j < 7][:20]
    first = [((0, 1, i, j, 0, 0, 0), (1, 1)) for i, j in pairs]
    if is_wider:
        first.append(((0, 0, 0, 0, 0, 0, 1), (1, 1)))
    second = [((0, 0, 0, 0, i, j, 0), (1, 1)) for i, j in pairs]
    last = (((0, 0, 8, 0, 0, 0, 0), (1, 1)),)
    return ("system", tuple("abcdefg"), (tuple(sorted(first)), tuple(sorted(second)), (), (), (), (), last))
