"""[92] to [94]: ranges, and CARRIED PAPERS."""

import unittest
from fractions import Fraction
from random import Random

from tests import formulas
from tests.courses import BOXES as STARTS, BURSTS, CLOCK, KNOWN, STILL, TURNS, lies_in
from tests.reference import ends, fraction, ratio, some_ratio
from tests.support import (
    BOXES, MATRICES, MOST, ONE, ORDER, OTHERS, POINTS, SETS, STEP, SYSTEM, check_calls, counts_wrong, refuses, too_many,
    with_part)
from tests.test_sets import some_square
from truecourse.carried import carried_during, is_carried, ranges
from truecourse.choosing import carried
from truecourse.errors import InvalidBox, InvalidCarried, InvalidMatrix, InvalidPoint, InvalidSet, InvalidTime
from truecourse.held import held_box
from truecourse.matrices import inverse, unit_matrix
from truecourse.sets import holds, point_of, set_hull, set_of_box
from truecourse.steps import end_box

N, U = (0, 1), (1, 1)
UNIT = unit_matrix(2)
PLAIN = ("system", ("x", "y"), ((), (((0, 0), (1, 1)),)))
BEGIN = set_of_box(((0, 4), (0, 4)))
WIDE = ((0, 4), (0, 2 * ONE))
PAPER = ("carried", BEGIN, ONE, 2, WIDE, ("set", (N, U), UNIT, ((0, 4), (0, 5))))
FLAT = ((U, U), (U, U))

SET = (InvalidSet, SETS + [set_of_box(((0, 1),)), set_of_box(((0, 1),) * 3)])
BOX = (InvalidBox, BOXES + [((0, 1),), ((0, 1),) * 3])
POINT = (InvalidPoint, POINTS + [(U,), (U, U, U)])
MATRIX = (InvalidMatrix, MATRICES + [((U,),), unit_matrix(3), FLAT, ((U, N),), ((U,), (N,)), ((N, N), (N, N))])
PAPERS = (InvalidCarried, OTHERS + [
    3, "x", (), list(PAPER), PAPER[:5], PAPER + (1,), with_part(PAPER, 4, ((0, 4), (0, ONE))), with_part(PAPER, 0, "step"),
    with_part(PAPER, 5, ("set", (N, U), UNIT, ((0, 4), (1, 5)))), with_part(PAPER, 1, None), with_part(PAPER, 2, True)])


def some_source(random, box, letters):
    """A slanted set near a box, and the hull of both held."""
    middle = tuple(ratio(Fraction(low + high, 2 * ONE)) for low, high in box)
    sides = tuple((-random.randint(0, ONE // 40), random.randint(0, ONE // 40)) for _ in range(letters))
    while True:
        matrix = some_square(random, letters)
        if all(abs(number) <= 2 * under for row in matrix for number, under in row):
            return ("set", middle, matrix, sides)


class TestRanges(unittest.TestCase):
    def test_errors(self):
        check_calls(self, ranges, [
            ("system", PLAIN, SYSTEM), ("source", BEGIN, SET), ("step", ONE, STEP), ("many", 2, ORDER), ("held", WIDE, BOX),
            ("middle", (N, U), POINT), ("matrix", UNIT, MATRIX)])
        refuses(ranges, InvalidMatrix, {"value": FLAT}, PLAIN, BEGIN, ONE, 2, WIDE, (N, U), FLAT)

    def test_by_hand(self):
        self.assertEqual(ranges(PLAIN, BEGIN, ONE, 2, WIDE, (N, U), UNIT), ((0, 4), (0, 4)))
        # Whether the held box holds the courses isn't asked.
        self.assertEqual(ranges(PLAIN, BEGIN, ONE, 2, ((9, 9), (9, 9)), (N, U), UNIT), ((0, 4), (0, 4)))
        # Twice as long sides halve the numbers; another middle moves them.
        twice = (((2, 1), N), (N, (1, 2)))
        self.assertEqual(ranges(PLAIN, BEGIN, ONE, 2, WIDE, (N, N), twice), ((0, 2), (2 * ONE, 2 * ONE + 8)))

    def test_order_one(self):
        # With the order 1 the matrix J is the unit: all slope is in what is left over.
        source = set_of_box(((0, ONE), (0, ONE)))
        held = ((-ONE, 2 * ONE), (-ONE, 2 * ONE))
        told = ranges(TURNS, source, ONE // 4, 1, held, ((1, 2), (1, 2)), UNIT)
        half, part = ONE // 2, ONE // 4
        self.assertEqual(told, ((-half - 2 * part, half + part), (-half - part, half + 2 * part)))

    def test_by_the_formula(self):
        random = Random(92)
        for name, (system, _) in KNOWN.items():
            letters = len(system[1])
            for _ in range(6):
                source = some_source(random, STARTS[name], letters)
                matrix = some_square(random, letters)
                middle = tuple(some_ratio(random) for _ in range(letters))
                step, many = ONE // random.randint(4, 40), random.randint(1, 6)
                more = random.choice([ONE, 2 ** 50, 2 ** 60])
                held = tuple((low - more, high + more) for low, high in STARTS[name])
                try:
                    wanted = formulas.ranges(
                        system[2], source, step, many, held, middle, matrix, inverse(matrix))
                except formulas.Beyond:
                    too_many(ranges, "grains", MOST, system, source, step, many, held, middle, matrix)
                else:
                    self.assertEqual(ranges(system, source, step, many, held, middle, matrix), wanted, name)

    def test_grains(self):
        edge = set_of_box(((2 ** 55, 2 ** 55 + 1),))
        small = ((0, 1),)
        too_many(ranges, "grains", MOST, BURSTS, edge, 1, 2, small, (N,), ((U,),))
        too_many(ranges, "grains", MOST, BURSTS, set_of_box(small), 1, 1, ((0, 2 ** 55 + 1),), (N,), ((U,),))
        too_many(ranges, "grains", MOST, STILL, set_of_box(small), 1, 1, small, ((2 ** 30 + 1, 1),), ((U,),))
        too_many(ranges, "grains", MOST, STILL, set_of_box(((0, 2),)), 1, 1, small, (N,), (((1, 2 ** 70),),))
        high = ("set", ((2 ** 30 + 1, 1),), ((U,),), ((0, 0),))
        too_many(ranges, "grains", MOST, STILL, high, 1, 1, small, (N,), ((U,),))
        self.assertEqual(ranges(STILL, set_of_box(((MOST, MOST),)), ONE, 1, small, (N,), ((U,),)), ((MOST, MOST),))


class TestPapers(unittest.TestCase):
    def test_errors(self):
        check_calls(self, is_carried, [("system", PLAIN, SYSTEM), ("value", PAPER, (None, []))])
        check_calls(self, carried_during, [
            ("system", PLAIN, SYSTEM), ("paper", PAPER, PAPERS), ("early", 3, (InvalidTime, counts_wrong(0, ONE))),
            ("late", 5, (InvalidTime, counts_wrong(3, ONE)))])
        refuses(carried_during, InvalidTime, {"value": 4}, PLAIN, PAPER, 5, 4)

    def test_forms(self):
        self.assertIs(is_carried(PLAIN, PAPER), True)
        for value in PAPERS[1] + [("carried",), "carried"]:
            self.assertIs(is_carried(PLAIN, value), False, value)
        for place, part in [
                (0, None), (0, "Carried"), (1, set_of_box(((0, 4),))), (1, BEGIN[:3]), (2, 0), (2, 8 * ONE + 1), (2, None), (3, 0), (3, 9),
                (3, True), (4, ((0, 4),)), (4, None), (4, [(0, 4), (0, 2 * ONE)]), (5, None), (5, set_of_box(((0, 4),))),
                (5, ("set", (N, U), FLAT, ((0, 4), (0, 5)))), (5, list(PAPER[5]))]:
            self.assertIs(is_carried(PLAIN, with_part(PAPER, place, part)), False, (place, part))
        self.assertIs(is_carried(STILL, PAPER), False)

    def test_least(self):
        """Each part of a paper otherwise by the least that can be."""
        target = PAPER[5]
        for part, told in [
                (((0, 4), (0, 4)), True), (((0, 3), (0, 5)), False), (((1, 4), (0, 5)), False), (((0, 4), (0, 3)), False),
                (((0, 4), (1, 5)), False), (((-1, 4), (0, 4)), True)]:
            self.assertIs(is_carried(PLAIN, with_part(PAPER, 5, with_part(target, 3, part))), told, part)
        tight = with_part(PAPER, 5, with_part(target, 3, ((0, 4), (0, 4))))
        little = (1, 2 ** 41)
        for middle, told in [((N, U), True), ((little, U), False), ((N, (2 ** 40 + 1, 2 ** 40)), False)]:
            self.assertIs(is_carried(PLAIN, with_part(tight, 5, with_part(tight[5], 1, middle))), told)
        for matrix, told in [(UNIT, True), (((U, little), (N, U)), False), ((((2 ** 41 - 1, 2 ** 41), N), (N, U)), False)]:
            self.assertIs(is_carried(PLAIN, with_part(tight, 5, with_part(tight[5], 2, matrix))), told)
        for step, told in [(ONE - 1, False), (ONE, True), (ONE + 1, False)]:
            self.assertIs(is_carried(PLAIN, with_part(tight, 2, step)), told)
        for held, told in [(((0, 4), (0, ONE + 4)), True), (((0, 4), (0, ONE + 3)), False), (((1, 4), (0, ONE + 4)), False)]:
            self.assertIs(is_carried(PLAIN, with_part(tight, 4, held)), told)
        for many in (1, 8):
            self.assertIs(is_carried(PLAIN, with_part(tight, 3, many)), True)
        for box, told in [(((0, 4), (0, 4)), True), (((-1, 4), (0, 4)), False), (((0, 4), (0, 5)), False), (((1, 2), (3, 3)), True)]:
            self.assertIs(is_carried(PLAIN, with_part(tight, 1, set_of_box(box))), told)

    def test_steps_of_all_lengths(self):
        for step in (1, 8 * ONE):
            target = ("set", ((step, ONE),) if step == 1 else ((8, 1),), ((U,),), ((0, 0),))
            paper = ("carried", set_of_box(((0, 0),)), step, 1, ((0, step),), target)
            self.assertIs(is_carried(CLOCK, paper), True)
            self.assertIs(is_carried(CLOCK, with_part(paper, 4, ((0, step - 1),))), False)

    def test_grains(self):
        edge = ((2 ** 54, 2 ** 54 + 2 ** 30),)
        target = ("set", ((2 ** 14, 1),), ((U,),), ((-2 ** 40, 2 ** 40),))
        source = set_of_box(((2 ** 54, 2 ** 54),))
        self.assertIs(is_carried(BURSTS, ("carried", source, 1, 1, edge, target)), True)
        self.assertIs(is_carried(BURSTS, ("carried", source, 1, 2, edge, target)), False)
        self.assertIs(is_carried(BURSTS, ("carried", source, 1, 1, ((0, MOST),), target)), False)
        far = ("set", ((2 ** 30 + 1, 1),), ((U,),), ((-MOST, MOST),))
        self.assertIs(is_carried(STILL, ("carried", far, 1, 1, ((0, MOST),), far)), False)

    def test_courses(self):
        """[92], [93]: all courses from points of the set, on the way and at the end."""
        random = Random(93)
        for name, (system, course) in KNOWN.items():
            letters = len(system[1])
            for k in range(4):
                source = some_source(random, STARTS[name], letters)
                step, many = ONE // random.randint(8, 40), random.choice([1, 2, 5, 8])
                paper = carried(system, source, step, many, 40)
                self.assertIs(is_carried(system, paper), True, name)
                for _ in range(5):
                    row = tuple(
                        ratio(a + (b - a) * Fraction(random.choice([0, 1, 2, 4]), 4)) for a, b in map(ends, source[3]))
                    point = tuple(fraction(x) for x in point_of(source, row))
                    for m in range(3):
                        row_then = course(point, Fraction(step * m, 2 * ONE))
                        self.assertTrue(lies_in(row_then, paper[4]), name)
                        time = step * m // 2
                        if Fraction(step * m, 2) == time:
                            self.assertTrue(lies_in(row_then, carried_during(system, paper, time, time)), name)
                        self.assertTrue(lies_in(row_then, carried_during(system, paper, 0, step)), name)
                    end = course(point, Fraction(step, ONE))
                    self.assertTrue(self.is_in_set(paper[5], end), name)
                    self.assertTrue(lies_in(end, set_hull(paper[5])), name)

    def is_in_set(self, affine, row):
        """A course is told to some digits only: so the set is taken by as little wider."""
        box = tuple((low - 1, high + 1) for low, high in affine[3])
        return holds(with_part(affine, 3, box), tuple(ratio(x) for x in row))

    def test_exact_courses_are_in_the_set(self):
        # Of these the courses are exact fractions: not a grain more is needed.
        random = Random(94)
        for name in ("bursts", "clock", "thrown", "fades", "still"):
            system, course = KNOWN[name]
            letters = len(system[1])
            for _ in range(5):
                source = some_source(random, STARTS[name], letters)
                step = ONE // random.randint(8, 40)
                paper = carried(system, source, step, random.choice([1, 3, 8]), 40)
                for _ in range(6):
                    row = tuple(ratio(random.choice(ends(side))) for side in source[3])
                    point = tuple(fraction(x) for x in point_of(source, row))
                    end = course(point, Fraction(step, ONE))
                    self.assertTrue(holds(paper[5], tuple(ratio(x) for x in end)), name)

    def test_during(self):
        """[94]: of the step from the hull of the set."""
        source = ("set", (U, N), ((U, U), (U, (-1, 1))), ((-9, 9), (0, 5)))
        paper = carried(TURNS, source, ONE // 8, 3, 9)
        hull = set_hull(source)
        for early, late in [(0, 0), (0, ONE // 8), (5, 7), (ONE // 9, ONE // 8)]:
            told = carried_during(TURNS, paper, early, late)
            self.assertEqual(told, formulas.during(TURNS[2], hull, early, late, 3, paper[4]))
        self.assertEqual(carried_during(TURNS, paper, ONE // 8, ONE // 8), end_box(TURNS, hull, ONE // 8, 3, paper[4]))
        self.assertIsNotNone(held_box(TURNS, hull, ONE // 8, 9))
