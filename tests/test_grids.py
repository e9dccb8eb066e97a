"""[141]: grids."""

import unittest
from fractions import Fraction
from itertools import product
from random import Random

from tests.reference import some_interval
from tests.support import BOX, BOXES, INTERVAL, ONE, OTHERS, check_calls, counts_wrong, refuses
from truecourse.boxes import box_meet, box_within, holds_point
from truecourse.errors import InvalidBox, InvalidCounts, InvalidMany, InvalidPosition
from truecourse.grids import cell_box, cells, cells_meeting, cuts

SQUARE = ((0, 10), (-3, 0))
MANY = (InvalidMany, counts_wrong(1, 64))
NO_COUNTS = OTHERS + [3, "x", (), [4, 2], (0, 2), (65, 1), (-1, 2), (True, 2), (4, None), (4, (2,)), (1,) * 9, (11, 10), (51, 2), ("4", 2), (4, False)]
COUNTS = (InvalidCounts, NO_COUNTS + [(4,), (4, 2, 1)])
CELL = (InvalidPosition, OTHERS + [3, "x", (), [1, 0], (1,), (1, 0, 0), (4, 0), (0, 2), (-1, 0), (True, 0), (1, False), (1, None), ("1", 0)])


class TestGrids(unittest.TestCase):
    def test_errors(self):
        check_calls(self, cuts, [("interval", (0, 10), INTERVAL), ("many", 4, MANY)])
        check_calls(self, cells, [("counts", (4, 2), (InvalidCounts, NO_COUNTS))])
        check_calls(self, cell_box, [("box", SQUARE, BOX), ("counts", (4, 2), COUNTS), ("cell", (1, 0), CELL)])
        check_calls(self, cells_meeting, [
            ("box", SQUARE, BOX), ("counts", (4, 2), COUNTS), ("other", ((0, 1), (0, 1)), (InvalidBox, BOXES + [((0, 1),), ((0, 1),) * 3]))])
        refuses(cell_box, InvalidCounts, {"value": (4,)}, SQUARE, (4,), (1,))

    def test_cuts(self):
        for interval, many, told in [
                ((0, 10), 4, [0, 2, 5, 7, 10]), ((-10, 0), 4, [-10, -8, -5, -3, 0]), ((0, 10), 1, [0, 10]), ((5, 5), 3, [5, 5, 5, 5]),
                ((0, 2), 4, [0, 0, 1, 1, 2]), ((-3, 0), 2, [-3, -2, 0])]:
            self.assertEqual(cuts(interval, many), told)
        self.assertEqual(len(cuts((0, ONE), 64)), 65)
        random = Random(141)
        for _ in range(60):
            low, high = interval = some_interval(random, 2 ** random.randint(1, 69))
            many = random.randint(1, 64)
            told = cuts(interval, many)
            self.assertEqual((told[0], told[-1], told), (low, high, sorted(told)))
            for k, at in enumerate(told):
                self.assertTrue(0 <= Fraction(k * (high - low), many) + low - at < 1)

    def test_cells(self):
        self.assertEqual(cells((1,)), [(0,)])
        self.assertEqual(cells((2, 2)), [(0, 0), (0, 1), (1, 0), (1, 1)])
        for counts in [(3, 1, 4), (64,), (10, 10), (1,) * 8, (2, 2, 2, 2, 2, 3), (50, 2), (4, 5, 5)]:
            told = cells(counts)
            self.assertEqual(told, sorted(product(*[range(many) for many in counts])))
        # 100 cells, 64 parts, and one more.
        self.assertEqual([len(cells(counts)) for counts in [(100 // 25, 25), (10, 10), (64, 1)]], [100, 100, 64])
        for counts in [(101,), (65,), (51, 2), (2, 3, 17), (100,)]:
            refuses(cells, InvalidCounts, {"value": counts}, counts)

    def test_new_lists(self):
        told = cells((2,))
        told.append(None)
        self.assertEqual(cells((2,)), [(0,), (1,)])

    def test_boxes(self):
        self.assertEqual(cell_box(SQUARE, (4, 2), (1, 0)), ((2, 5), (-3, -2)))
        random = Random(142)
        for _ in range(40):
            letters = random.randint(1, 3)
            box = tuple(some_interval(random, random.choice([3, 50, ONE])) for _ in range(letters))
            counts = tuple(random.randint(1, 4) for _ in range(letters))
            for cell in cells(counts):
                parts = [cuts(interval, many) for interval, many in zip(box, counts)]
                self.assertEqual(cell_box(box, counts, cell), tuple((part[k], part[k + 1]) for part, k in zip(parts, cell)))
                self.assertIs(box_within(cell_box(box, counts, cell), box), True)
            for _ in range(20):
                # A point is in the box exactly if it is in some cell's box.
                point = tuple((random.randint(low - 1, high + 1), 1) for low, high in box)
                point = tuple((Fraction(x, ONE).numerator, Fraction(x, ONE).denominator) for x, _ in point)
                held = any(holds_point(cell_box(box, counts, cell), point) for cell in cells(counts))
                self.assertIs(held, holds_point(box, point))

    def test_meeting(self):
        self.assertEqual(cells_meeting(((0, 10), (0, 0)), (5, 1), ((4, 4), (0, 1))), [(1, 0), (2, 0)])
        self.assertEqual(cells_meeting(((0, 10),), (5,), ((5, 5),)), [(2,)])
        self.assertEqual(cells_meeting(((0, 10),), (5,), ((-9, 0),)), [(0,)])
        self.assertEqual(cells_meeting(((0, 10),), (5,), ((-9, -1),)), [])
        self.assertEqual(cells_meeting(((0, 10),), (5,), ((-9, 90),)), cells((5,)))
        # Cells of a single point may meet several times.
        self.assertEqual(cells_meeting(((3, 3),), (4,), ((3, 3),)), cells((4,)))
        random = Random(143)
        for _ in range(60):
            box, other = (tuple(some_interval(random, 20) for _ in range(2)) for _ in range(2))
            counts = (random.randint(1, 9), random.randint(1, 9))
            self.assertEqual(cells_meeting(box, counts, other),
                             [cell for cell in cells(counts) if box_meet(cell_box(box, counts, cell), other) is not None])
