"""[35], [36]: corner numbers."""

import unittest
from fractions import Fraction
from random import Random

from tests import reference
from tests.reference import ends, fraction, least, ratio, some_interval, some_poly, some_ratio
from tests.support import BOXES, MOST, ONE, OTHERS, POLY, RATIOS, check_calls, counts_wrong, refuses, too_many
from truecourse.corners import corner_numbers, corner_range, split_corners
from truecourse.errors import InvalidBox, InvalidDegrees, InvalidNumbers, InvalidPart, InvalidPosition

BOX = (InvalidBox, BOXES + [((0, 1),), ((0, 1),) * 3])
XY = (((0, 1), (1, 1)), ((1, 0), (1, 1)))
# Greatest exponents with 5 * 5 * 4 * 4 = 400 corner numbers, and with 5 * 5 * 5 * 4 = 500.
WIDE = tuple(sorted([((4, 0, 0, 0), (1, 1)), ((0, 4, 0, 0), (1, 1)), ((0, 0, 3, 0), (1, 1)),
                     ((0, 0, 0, 3), (1, 1))]))
WIDER = tuple(sorted([((4, 0, 0, 0), (1, 1)), ((0, 4, 0, 0), (1, 1)), ((0, 0, 4, 0), (1, 1)),
                      ((0, 0, 0, 3), (1, 1))]))


class TestCornerNumbers(unittest.TestCase):
    def test_errors(self):
        for function in (corner_numbers, corner_range):
            check_calls(self, function, [("poly", XY, POLY), ("box", ((0, 1), (2, 3)), BOX)])
            too_many(function, "corners", 400, WIDER, ((0, ONE),) * 4)
            refuses(function, InvalidBox, {"value": ((0, 1),)}, WIDER, ((0, 1),))

    def test_how_many(self):
        self.assertEqual(len(corner_numbers(WIDE, ((0, ONE),) * 4)), 400)
        ones = (((1,) * 8, (1, 1)),)
        self.assertEqual(len(corner_numbers(ones, ((0, ONE),) * 8)), 256)
        for many in range(1, 9):
            self.assertEqual(corner_numbers((), ((0, MOST),) * many), [(0, 1)])
            self.assertEqual(corner_range((), ((0, MOST),) * many), (0, 0))

    def test_sequence(self):
        # x + 2 y over [0, 1] * [0, 1], the second letter going round the faster.
        poly = (((0, 1), (2, 1)), ((1, 0), (1, 1)))
        told = corner_numbers(poly, ((0, ONE), (0, ONE)))
        self.assertEqual(told, [(0, 1), (2, 1), (1, 1), (3, 1)])
        self.assertEqual(corner_range(poly, ((0, ONE), (0, ONE))), (0, 3 * ONE))

    def test_new_lists(self):
        told = corner_numbers(XY, ((0, 1), (2, 3)))
        told.append(None)
        self.assertEqual(len(corner_numbers(XY, ((0, 1), (2, 3)))), 4)

    def test_range(self):
        third = (((0,), (1, 3)),)
        self.assertEqual(corner_range(third, ((0, 5),)), (ONE // 3, ONE // 3 + 1))
        line = (((1,), (1, 1)),)
        self.assertEqual(corner_range(line, ((-MOST, MOST),)), (-MOST, MOST))
        too_many(corner_range, "grains", MOST, (((1,), (MOST + 1, MOST)),), ((0, MOST),))
        too_many(corner_range, "grains", MOST, (((1,), (MOST + 1, MOST)),), ((-MOST, 0),))
        # The numbers themselves have no bound.
        self.assertEqual(corner_numbers((((1,), (4, 1)),), ((0, MOST),)), [(0, 1), (2 ** 32, 1)])

    def test_against_fractions(self):
        random = Random(8)
        for k in range(60):
            letters = 1 + k % 3
            poly = some_poly(random, letters, 5, 5)
            box = tuple(some_interval(random, random.choice([9, 3 * ONE])) for _ in range(letters))
            told = corner_numbers(poly, box)
            self.assertEqual(told, reference.corners(poly, box))
            numbers = [fraction(number) for number in told]
            self.assertEqual(corner_range(poly, box), least(numbers))
            for _ in range(5):
                point = [a + (b - a) * Fraction(random.randint(0, 9), 9) for a, b in map(ends, box)]
                held = reference.value(poly, point)
                self.assertTrue(min(numbers) <= held <= max(numbers))


class TestSplit(unittest.TestCase):
    def test_errors(self):
        numbers = [(0, 1), (1, 2), (3, 1), (1, 1), (0, 1), (5, 2)]
        wrong_numbers = (InvalidNumbers, OTHERS + [
            3, "ab", [], numbers[:5], numbers + [(0, 1)], numbers[:5] + [(2, 4)],
            numbers[:5] + [(True, 1)], numbers[:5] + [None], {(0, 1): 1}])
        degrees = OTHERS + [3, "ab", (), [1, 2], (1, -1), (1, True), (0,) * 9, (400,), (19, 20),
                            (1, "2"), (10 ** 30,), (1,) * 8 + (0,)]
        position = (InvalidPosition, counts_wrong(0, 1))
        part = (InvalidPart, RATIOS + [(0, 1), (1, 1), (-1, 2), (3, 2)])
        # The degrees are looked at ahead of the numbers.
        for wrong in degrees:
            refuses(split_corners, InvalidDegrees, {"value": wrong}, None, wrong, None, None)
        check_calls(self, lambda numbers, position, part: split_corners(numbers, (1, 2), position, part), [
            ("numbers", numbers, wrong_numbers), ("position", 1, position), ("part", (1, 3), part)])
        told = split_corners(numbers, (1, 2), 1, (1, 3))
        self.assertEqual(split_corners(part=(1, 3), position=1, degrees=(1, 2), numbers=tuple(numbers)), told)
        split_corners([(0, 1)] * 400, (399,), 0, (1, 2))
        split_corners([(0, 1)] * 400, (19, 19), 1, (1, 2))

    def test_by_hand(self):
        row = [(0, 1), (1, 1), (0, 1)]
        self.assertEqual(split_corners(row, (2,), 0, (1, 3)), (
            [(0, 1), (1, 3), (4, 9)], [(4, 9), (2, 3), (0, 1)]))
        self.assertEqual(split_corners([(5, 1)], (0,), 0, (1, 3)), ([(5, 1)], [(5, 1)]))
        self.assertEqual(row, [(0, 1), (1, 1), (0, 1)])

    def test_reckoned_anew(self):
        random = Random(9)
        for k in range(40):
            letters = 1 + k % 3
            poly = some_poly(random, letters, 5, 5)
            degrees = tuple(max([e[j] for e, _ in poly], default=0) for j in range(letters))
            box = tuple((3 * random.randint(-9, 0) * ONE, 3 * random.randint(1, 9) * ONE) for _ in range(letters))
            position = random.randrange(letters)
            low, high = box[position]
            part = ratio(Fraction(random.randint(1, 2), 3))
            cut = low + (high - low) * part[0] // 3
            pieces = [box[:position] + (side,) + box[position + 1:] for side in [(low, cut), (cut, high)]]
            told = split_corners(corner_numbers(poly, box), degrees, position, part)
            self.assertEqual(told, tuple(corner_numbers(poly, piece) for piece in pieces))

    def test_rounds(self):
        random = Random(10)
        for k in range(20):
            numbers = [some_ratio(random) for _ in range(6)]
            part = ratio(Fraction(random.randint(1, 8), 9))
            current, firsts, lasts = [fraction(number) for number in numbers], [], []
            while current:
                firsts.append(ratio(current[0]))
                lasts.append(ratio(current[-1]))
                current = [a + fraction(part) * (b - a) for a, b in zip(current, current[1:])]
            self.assertEqual(split_corners(numbers, (5,), 0, part), (firsts, lasts[::-1]))
