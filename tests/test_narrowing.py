"""[113], [114]: what is missed, and narrowings."""

import unittest
from fractions import Fraction
from random import Random

from tests.courses import starts
from tests.reference import some_interval, some_poly, value
from tests.support import (
    BOXES, INTERVAL, INTERVALS, MOST, ONE, OTHERS, POLY, POLYS, check_calls, counts_wrong, refuses, too_many,
    with_part)
from truecourse.boxes import box_within, holds_point
from truecourse.errors import InvalidBox, InvalidInterval, InvalidPoly, InvalidRoom
from truecourse.intervals import meet
from truecourse.narrowing import is_narrowing, misses, narrowed
from truecourse.polytexts import parse_poly
from truecourse.ranges import best_range

LINE = (((1,), (1, 1)),)
SQUARE = (((2,), (1, 1)),)
BOTH = (((0, 1), (1, 1)), ((1, 0), (1, 1)))
WIDE = ((0, 8 * ONE),)
BOX = (InvalidBox, BOXES + [((0, 1), (0, 1))])
ROOM = (InvalidRoom, counts_wrong(0, 60))
GOOD = ("narrowing", LINE, (4, 9), WIDE, ((0, "low", 3), (0, "high", 10)), ((3, 10),))


def narrowing(cuts, behind, poly=LINE, interval=(4, 9), box=WIDE):
    return ("narrowing", poly, interval, box, cuts, behind)


class TestMisses(unittest.TestCase):
    def test_errors(self):
        check_calls(self, misses, [("poly", LINE, POLY), ("box", WIDE, BOX), ("interval", (1, 2), INTERVAL)])
        refuses(misses, InvalidBox, {"value": WIDE}, BOTH, WIDE, (1, 2))
        too_many(misses, "grains", MOST, SQUARE, ((0, 2 ** 60),), (1, 2))
        refuses(misses, InvalidInterval, {"value": 3}, SQUARE, ((0, 2 ** 60),), 3)

    def test_ends_touch(self):
        for interval, told in [((-5, -1), True), ((-5, 0), False), ((8 * ONE, 9 * ONE), False), ((8 * ONE + 1, 9 * ONE), True),
                               ((3, 3), False), ((-9, 9 * ONE), False)]:
            self.assertIs(misses(LINE, WIDE, interval), told, interval)

    def test_zero(self):
        for box in (WIDE, WIDE * 8, ((-5, -5), (0, 3))):
            self.assertIs(misses((), box, (0, 0)), False)
            self.assertIs(misses((), box, (1, 5)), True)
            self.assertIs(misses((), box, (-5, -1)), True)

    def test_best_range(self):
        """It hangs on the best range alone: one grain more, or less, and it is missed, or met."""
        random = Random(113)
        for _ in range(60):
            poly = some_poly(random, 2, 4, 3)
            box = tuple(some_interval(random, 3 * ONE) for _ in range(2))
            low, high = best_range(poly, box)
            for interval, told in [((high, high + 9), False), ((high + 1, high + 9), True), ((low - 9, low), False), ((low - 9, low - 1), True)]:
                self.assertIs(misses(poly, box, interval), told)


class TestNarrowings(unittest.TestCase):
    def test_errors(self):
        check_calls(self, is_narrowing, [("value", GOOD, (None, []))])
        check_calls(self, narrowed, [
            ("poly", LINE, POLY), ("interval", (4, 9), INTERVAL), ("box", WIDE, BOX), ("room", 6, ROOM)])
        refuses(narrowed, InvalidPoly, {"value": None}, None, None, None, None)
        refuses(narrowed, InvalidRoom, {"value": 61}, SQUARE, (1, 2), ((0, 2 ** 60),), 61)

    def test_forms(self):
        self.assertIs(is_narrowing(GOOD), True)
        wrong = OTHERS + [3, "narrowing", (), list(GOOD), GOOD[:5], GOOD + (1,)] + [
            with_part(GOOD, place, part) for place, parts in [
                (0, ["Narrowing", None, True, ("narrowing",)]), (1, POLYS + [BOTH]), (2, INTERVALS), (3, BOXES + [WIDE * 2]),
                (4, [list(GOOD[4]), None, "cuts", (None,), ((0, "low"),), ((0, "low", 3, 4),), ([0, "low", 3], (0, "high", 10))]),
                (5, BOXES + [((3, 11),), ((2, 10),), ((3, 10), (0, 0))])] for part in parts]
        for value in wrong:
            self.assertIs(is_narrowing(value), False, value)

    def test_cuts(self):
        for cuts, behind, told in [
                ((), WIDE, True), ((), ((0, 8 * ONE - 1),), False), (((0, "low", 3),), ((3, 8 * ONE),), True),
                (((0, "low", 4),), ((4, 8 * ONE),), False), (((0, "high", 10),), ((0, 10),), True), (((0, "high", 9),), ((0, 9),), False),
                # At the low and at the high end; what is cut off is a single point.
                (((0, "low", 0),), WIDE, True), (((0, "high", 8 * ONE),), WIDE, True),
                (((0, "low", -1),), ((-1, 8 * ONE),), False), (((0, "high", 8 * ONE + 1),), ((0, 8 * ONE + 1),), False),
                (((0, "low", 8 * ONE),), ((8 * ONE, 8 * ONE),), False), (((0, "high", 0),), ((0, 0),), False),
                (((1, "low", 3),), ((3, 8 * ONE),), False), (((-1, "low", 3),), ((3, 8 * ONE),), False),
                (((0, "Low", 3),), ((3, 8 * ONE),), False), (((0, "High", 10),), ((0, 10),), False), (((0, "", 10),), ((0, 10),), False),
                (((0, "low", 1),), ((1, 8 * ONE),), True), (((0, "low", 1),), ((True, 8 * ONE),), False), ((), ((False, 8 * ONE),), False), (((0, None, 3),), ((3, 8 * ONE),), False),
                (((False, "low", 3),), ((3, 8 * ONE),), False), (((0, "low", True),), ((1, 8 * ONE),), False),
                (((0, "low", 2), (0, "low", 3)), ((3, 8 * ONE),), True), (((0, "low", 3), (0, "low", 2)), ((2, 8 * ONE),), False),
                (((0, "low", 3), (0, "low", 2)), ((3, 8 * ONE),), False), (((0, "high", 10), (0, "high", 11)), ((0, 10),), False)]:
            self.assertIs(is_narrowing(narrowing(cuts, behind)), told, (cuts, behind))

    def test_all_may_go(self):
        # The value is nowhere within the interval: all may be cut off, but a face is left always.
        for cuts, behind in [(((0, "low", 8 * ONE),), ((8 * ONE, 8 * ONE),)), (((0, "high", 0),), ((0, 0),))]:
            self.assertIs(is_narrowing(narrowing(cuts, behind, interval=(-9, -1))), True)
            self.assertIs(is_narrowing(narrowing(cuts, behind, interval=(-9, 0))), False)

    def test_each_cut_on_what_is_left(self):
        # x + y within (0, 0) on [1, 2] x [-3, 0]: y from 1 / 2 up can go when x is so far only.
        box = ((ONE, 2 * ONE), (-3 * ONE, 0))
        cuts = ((1, "high", -ONE // 2), (1, "high", -ONE + 1), (1, "low", -2 * ONE - 1), (0, "high", 2 * ONE))
        self.assertIs(is_narrowing(narrowing(cuts[:3], (box[0], (-2 * ONE - 1, -ONE + 1)), BOTH, (0, 0), box)), True)
        self.assertIs(is_narrowing(narrowing(cuts, (box[0], (-2 * ONE - 1, -ONE + 1)), BOTH, (0, 0), box)), False)
        self.assertIs(is_narrowing(narrowing(cuts[1:2], (box[0], (-3 * ONE, -ONE + 1)), BOTH, (0, 0), box)), True)
        self.assertIs(is_narrowing(narrowing(((1, "high", -ONE),), (box[0], (-3 * ONE, -ONE)), BOTH, (0, 0), box)), False)

    def test_zero(self):
        # () is 0 everywhere, in any number of letters.
        for box in (WIDE, WIDE * 3, WIDE * 8):
            self.assertIs(is_narrowing(narrowing((), box, (), (0, 0), box)), True)
            self.assertIs(is_narrowing(narrowing(((0, "low", 5),), ((5, 8 * ONE),) + box[1:], (), (0, 0), box)), False)
            self.assertIs(is_narrowing(narrowing(((0, "low", 5),), ((5, 8 * ONE),) + box[1:], (), (1, 2), box)), True)
            for interval in ((0, 0), (1, 2)):
                self.assertIs(is_narrowing(narrowed((), interval, box, 9)), True)

    def test_sixty_cuts(self):
        for many, told in [(60, True), (61, False)]:
            cuts = tuple((0, "low", k + 1) for k in range(many))
            self.assertIs(is_narrowing(narrowing(cuts, ((many, 8 * ONE),), interval=(100, 200))), told)

    def test_grains(self):
        far = ((0, 2 ** 60),)
        self.assertIs(is_narrowing(narrowing(((0, "high", ONE),), ((0, ONE),), SQUARE, (4, 9), far)), False)
        self.assertIs(is_narrowing(narrowing((), far, SQUARE, (4, 9), far)), True)
        too_many(narrowed, "grains", MOST, SQUARE, (4, 9), far, 6)
        # Without room no range is asked for.
        self.assertEqual(narrowed(SQUARE, (4, 9), far, 0), narrowing((), far, SQUARE, (4, 9), far))

    def check(self, poly, interval, box, room):
        told = narrowed(poly, interval, box, room)
        self.assertIs(is_narrowing(told), True)
        self.assertEqual(told[:4], ("narrowing", poly, interval, box))
        self.assertTrue(len(told[4]) <= room)
        self.assertIs(box_within(told[5], box), True)
        return told

    def test_room(self):
        for room in (0, 1, 2, 3, 60):
            told = self.check(BOTH, (0, 0), ((ONE, 2 * ONE), (-9 * ONE, 9 * ONE)), room)
            self.assertEqual(told[4] == (), room == 0)
        self.assertEqual(narrowed(LINE, (4, 9), WIDE, 0), narrowing((), WIDE))

    def test_much_goes(self):
        told = self.check(LINE, (4, 9), WIDE, 60)
        self.assertEqual(told[5], ((3, 10),))
        told = self.check(BOTH, (0, 0), ((ONE, 2 * ONE), (-9 * ONE, 9 * ONE)), 20)
        self.assertTrue(told[5][1][1] - told[5][1][0] < 11 * ONE // 10)
        # A point box can't be cut, and nothing is cut off where the value is within the interval.
        self.assertEqual(self.check(LINE, (5, 9), ((4, 4),), 9)[5], ((4, 4),))
        self.assertEqual(self.check(LINE, (-MOST, MOST), WIDE, 9)[4], ())

    def test_no_such_point_goes(self):
        """[114]: each point at which the value is within the interval is in the box behind."""
        random = Random(114)
        seen = 0
        for k in range(60):
            letters = 1 + k % 3
            poly = some_poly(random, letters, 4, 3)
            box = tuple(some_interval(random, 2 * ONE) for _ in range(letters))
            low, high = best_range(poly, box)
            ends = sorted(random.randint(low - ONE // 9, high + ONE // 9) for _ in range(2))
            middle = (low + high) // 2
            for interval in (tuple(ends), (middle, middle + (high - low) // 9)):
                told = self.check(poly, interval, box, random.choice([1, 3, 9, 30]))
                for point in starts(box, random, 12):
                    worth = value(poly, point) * ONE
                    if interval[0] <= worth <= interval[1]:
                        seen += 1
                        spot = tuple((x.numerator, x.denominator) for x in point)
                        self.assertIs(holds_point(told[5], spot), True)
        self.assertGreater(seen, 100)

    def test_what_goes_is_missed(self):
        """The judge goes cut by cut, by the best range of each piece that goes."""
        random = Random(115)
        poly = parse_poly("x^2 + x*y - 1", ["x", "y"])
        for _ in range(60):
            box = tuple(some_interval(random, 3 * ONE) for _ in range(2))
            left, cuts, told = box, [], True
            for _ in range(random.randint(1, 3)):
                position, side = random.randrange(2), random.choice(["low", "high"])
                low, high = left[position]
                at = random.choice([low, high, random.randint(low, high)])
                below, above = (left[:position] + (part,) + left[position + 1:] for part in ((low, at), (at, high)))
                gone, left = (below, above) if side == "low" else (above, below)
                told = told and meet(best_range(poly, gone), (0, ONE // 3)) is None
                cuts.append((position, side, at))
            self.assertIs(is_narrowing(narrowing(tuple(cuts), left, poly, (0, ONE // 3), box)), told)
            self.assertIs(is_narrowing(narrowing(tuple(cuts), ((left[0][0], left[0][1] + 1), left[1]), poly, (0, ONE // 3), box)), False)

    def test_points_of_the_interval(self):
        # The circle x^2 + y^2 = 1 on the upper right square; its points stay.
        circle = parse_poly("x^2 + y^2 - 1", ["x", "y"])
        told = self.check(circle, (0, 0), ((ONE // 2, 2 * ONE), (ONE // 4, 2 * ONE)), 40)
        for x, y in [(Fraction(3, 5), Fraction(4, 5)), (Fraction(4, 5), Fraction(3, 5)), (Fraction(12, 13), Fraction(5, 13))]:
            self.assertIs(holds_point(told[5], ((x.numerator, x.denominator), (y.numerator, y.denominator))), True)
        self.assertTrue(told[5][0][1] < 11 * ONE // 10)
