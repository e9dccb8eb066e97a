"""[5], [15]: BOXES and POINTS."""

import unittest

from tests.support import BOX, BOXES, MOST, ONE, POINT, POINTS, check_calls, counts_wrong, refuses, too_many
from truecourse.boxes import (
    around_point, box_hull, box_meet, box_width, box_within, holds_point, is_box, is_point,
    split_box, widest)
from truecourse.errors import InvalidBox, InvalidPoint, InvalidPosition, UnlikeSizes


class TestBoxes(unittest.TestCase):
    def test_is_box(self):
        for value in [((0, 0),), ((0, 1),) * 8, ((-MOST, MOST), (5, 5))]:
            self.assertIs(is_box(value), True)
        for value in BOXES:
            self.assertIs(is_box(value), False)

    def test_is_point(self):
        for value in [((0, 1),), ((-1, 2),) * 8]:
            self.assertIs(is_point(value), True)
        for value in POINTS:
            self.assertIs(is_point(value), False)

    def test_errors(self):
        two = ((0, 1), (2, 3))
        for function in (box_within, box_hull, box_meet):
            check_calls(self, function, [("box", two, BOX), ("other", two, BOX)])
            refuses(function, UnlikeSizes, {}, two, two[:1])
            refuses(function, InvalidBox, {"value": two * 5}, two, two * 5)
        for function in (box_width, widest):
            check_calls(self, function, [("box", two, BOX)])
        position = ("position", 1, (InvalidPosition, counts_wrong(0, 1)))
        check_calls(self, split_box, [("box", two, BOX), position])
        check_calls(self, holds_point, [("box", two, BOX), ("point", ((1, 2), (0, 1)), POINT)])
        refuses(holds_point, UnlikeSizes, {}, two, ((1, 2),))
        refuses(holds_point, InvalidPoint, {"value": ((1, 2), 3)}, two[:1], ((1, 2), 3))
        check_calls(self, around_point, [("point", ((1, 2), (0, 1)), POINT)])

    def test_within(self):
        wide = ((0, 9), (-5, 5))
        for box, told in [(wide, True), (((1, 2), (0, 0)), True), (((-1, 2), (0, 0)), False),
                          (((1, 2), (0, 6)), False), (((0, 9), (-6, 5)), False)]:
            self.assertIs(box_within(box, wide), told)

    def test_hull_and_meet(self):
        one, other = ((0, 4), (2, 3)), ((4, 6), (0, 9))
        self.assertEqual(box_hull(one, other), ((0, 6), (0, 9)))
        self.assertEqual(box_meet(one, other), ((4, 4), (2, 3)))
        self.assertIs(box_meet(one, ((5, 6), (0, 9))), None)
        self.assertIs(box_meet(one, ((0, 1), (4, 4))), None)

    def test_width(self):
        box = ((0, 3), (1, 6), (-5, 0))
        self.assertEqual(box_width(box), 5)
        self.assertEqual(widest(box), 1)
        self.assertEqual(widest(((1, 1), (2, 2))), 0)

    def test_split(self):
        box = ((0, 3), (-4, 1))
        self.assertEqual(split_box(box, 0), (((0, 1), (-4, 1)), ((1, 3), (-4, 1))))
        self.assertEqual(split_box(box, 1), (((0, 3), (-4, -2)), ((0, 3), (-2, 1))))
        eight = tuple((k, k + 2) for k in range(8))
        first, second = split_box(eight, 7)
        self.assertEqual(first, eight[:7] + ((7, 8),))
        self.assertEqual(second, eight[:7] + ((8, 9),))

    def test_points(self):
        box = ((0, ONE), (0, ONE))
        self.assertIs(holds_point(box, ((0, 1), (1, 1))), True)
        self.assertIs(holds_point(box, ((1, 3), (ONE + 1, ONE))), False)
        self.assertIs(holds_point(box, ((-1, 10 ** 30), (1, 2))), False)
        self.assertEqual(around_point(((1, 3), (-1, 2))),
                         ((ONE // 3, ONE // 3 + 1), (-ONE // 2, -ONE // 2)))
        too_many(around_point, "grains", MOST, ((0, 1), (2 ** 30 + 1, 1)))
