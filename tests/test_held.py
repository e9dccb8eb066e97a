"""[7], [81], [82]: boxes that hold the courses during a step."""

import unittest
from fractions import Fraction
from random import Random

from tests import formulas
from tests.courses import BOXES as STARTS, BURSTS, CLOCK, FALLS, GROWS, KNOWN, NEAR, STILL, TURNS, lies_in, starts
from tests.reference import some_interval
from tests.support import BOXES, MOST, ONE, ROOM, STEP, SYSTEM, check_calls, refuses, too_many
from tests.test_series import some_system
from truecourse.boxes import box_within
from truecourse.errors import InvalidBox, InvalidRoom, InvalidStep
from truecourse.held import held_box, needed_box, stays

BOX = (InvalidBox, BOXES + [((0, 1),), ((0, 1),) * 3])
UNIT = ((ONE, ONE),)
QUARTER = ONE // 4
TWICE = ((0, 5), (7, 9))


class TestStays(unittest.TestCase):
    def test_errors(self):
        wide = ((-ONE, ONE), (-ONE, ONE))
        for function in (stays, needed_box):
            check_calls(self, function, [
                ("system", TURNS, SYSTEM), ("box", TWICE, BOX), ("step", 5, STEP), ("held", wide, BOX)])
        check_calls(self, held_box, [
            ("system", TURNS, SYSTEM), ("box", TWICE, BOX), ("step", 5, STEP), ("room", 3, ROOM)])
        refuses(stays, InvalidStep, {"value": 0}, TURNS, TWICE, 0, None)
        refuses(held_box, InvalidRoom, {"value": 41}, TURNS, TWICE, 1, 41)

    def test_just_holds(self):
        # x' = -x from 1 for 1/4: within 0 to 1 it needs 3/4 to 1.
        self.assertEqual(needed_box(FALLS, UNIT, QUARTER, ((0, ONE),)), ((3 * QUARTER, ONE),))
        for held, told in [(((0, ONE),), True), (((3 * QUARTER, ONE),), True), (((3 * QUARTER + 1, ONE),), False),
                           (((0, ONE - 1),), False), (((ONE, ONE),), False), (((-MOST, MOST),), True)]:
            self.assertIs(stays(FALLS, UNIT, QUARTER, held), told)
        self.assertIs(stays(STILL, ((3, 5),), 8 * ONE, ((3, 5),)), True)
        self.assertIs(stays(STILL, ((3, 5),), 8 * ONE, ((4, 5),)), False)
        # A clock: each step needs just itself.
        for step in (1, ONE, 8 * ONE):
            self.assertIs(stays(CLOCK, ((0, 0),), step, ((0, step),)), True)
            self.assertIs(stays(CLOCK, ((0, 0),), step, ((0, step - 1),)), False)
            self.assertIs(stays(CLOCK, ((0, 0),), step, ((1, step),)), False)

    def test_each_letter_counts(self):
        held = ((-2 * ONE, 2 * ONE), (-2 * ONE, 2 * ONE))
        self.assertIs(stays(TURNS, ((ONE, ONE), (0, 0)), QUARTER, held), True)
        for thin in [((-2 * ONE, ONE), (-2 * ONE, 2 * ONE)), ((-2 * ONE, 2 * ONE), (-2 * ONE, QUARTER))]:
            self.assertIs(stays(TURNS, ((ONE, ONE), (0, 0)), QUARTER, thin), False)

    def test_by_the_formula(self):
        random = Random(81)
        seen = set()
        for k in range(150):
            letters = 1 + k % 3
            system = some_system(random, letters)
            box = tuple(some_interval(random, ONE) for _ in range(letters))
            more = random.choice([5, ONE // 4, ONE])
            held = tuple((low - random.randint(0, more), high + random.randint(0, more)) for low, high in box)
            step = random.choice([1, random.randint(1, ONE // 8), ONE // 50])
            if k % 5 == 4:
                held = tuple((low - 2 ** 58, high + 2 ** 50) for low, high in held)
            try:
                wanted = formulas.needed(system[2], box, step, held)
            except formulas.Beyond:
                seen.add(None)
                for function in (stays, needed_box):
                    too_many(function, "grains", MOST, system, box, step, held)
                continue
            self.assertEqual(needed_box(system, box, step, held), wanted)
            told = stays(system, box, step, held)
            self.assertIs(told, formulas.holds(system[2], box, step, held))
            seen.add(told)
        self.assertEqual(seen, {True, False, None})

    def test_grains(self):
        edge = ((2 ** 55, 2 ** 55),)
        double = ("system", ("x",), ((((1,), (2, 1)),),))
        self.assertEqual(needed_box(BURSTS, ((0, 0),), 8, edge), ((0, 2 ** 33),))
        self.assertEqual(needed_box(double, ((0, 0),), ONE, ((0, MOST // 2),)), ((0, MOST),))
        for function in (stays, needed_box):
            too_many(function, "grains", MOST, BURSTS, ((0, 0),), 8, ((2 ** 55, 2 ** 55 + 1),))
            too_many(function, "grains", MOST, double, ((0, 0),), ONE, ((0, MOST // 2 + 1),))
            too_many(function, "grains", MOST, GROWS, ((MOST, MOST),), ONE, ((1, 1),))
        self.assertEqual(needed_box(GROWS, ((MOST - 1, MOST - 1),), ONE, ((1, 1),)), ((MOST - 1, MOST),))
        # Where the first letter does not stay already the others count, too.
        pair = ("system", ("x", "y"), ((((0, 0), (1, 1)),), (((0, 1), (2, 1)),)))
        too_many(stays, "grains", MOST, pair, ((0, 0), (0, 0)), ONE, ((5, 5), (0, MOST)))
        self.assertIs(stays(STILL, ((-MOST, MOST),), 8 * ONE, ((-MOST, MOST),)), True)


class TestHeldBox(unittest.TestCase):
    def check(self, system, box, step, room):
        """What is found holds; something is found where the trial box holds; None without room."""
        told = held_box(system, box, step, room)
        if told is None:
            try:
                trial = formulas.trial(system[2], box, step)
                self.assertFalse(room >= 1 and formulas.holds(system[2], box, step, trial))
            except formulas.Beyond:
                pass
            return False
        self.assertTrue(formulas.holds(system[2], box, step, told))
        self.assertIs(stays(system, box, step, told), True)
        self.assertTrue(box_within(box, told))
        return True

    def test_trial_is_enough(self):
        for name, (system, _) in KNOWN.items():
            for step in (1, 1000, ONE // 100):
                self.assertTrue(self.check(system, STARTS[name], step, 1), (name, step))

    def test_twice_the_way(self):
        # x' = 1 - x from 0: of a trial box that goes three times the way the slopes would change signs.
        bends = ("system", ("x",), ((((0,), (1, 1)), ((1,), (-1, 1))),))
        self.assertTrue(self.check(bends, ((0, 0),), 9 * ONE // 20, 1))
        self.assertFalse(self.check(bends, ((0, 0),), 11 * ONE // 20, 1))

    def test_room(self):
        self.assertIsNone(held_box(FALLS, UNIT, QUARTER, 0))
        self.assertIsNone(held_box(STILL, ((0, 0),), 1, 0))
        self.assertTrue(self.check(FALLS, UNIT, QUARTER, 1))
        # From -1 to 1 the turning goes faster than the trial box tells; widening finds a box.
        box = ((ONE, ONE), (0, 0))
        self.assertFalse(self.check(TURNS, box, ONE // 2, 1))
        self.assertTrue(self.check(TURNS, box, ONE // 2, 40))

    def test_runs_off(self):
        # x' = x * x from 1 is gone at the time 1: no box holds its courses during that step.
        for step in (ONE, 2 * ONE, 8 * ONE):
            for room in (1, 40):
                self.assertFalse(self.check(BURSTS, UNIT, step, room))
        self.assertFalse(self.check(GROWS, UNIT, 8 * ONE, 40))
        self.assertTrue(self.check(CLOCK, UNIT, 8 * ONE, 1))

    def test_many(self):
        random = Random(82)
        found = 0
        for k in range(200):
            letters = 1 + k % 3
            system = some_system(random, letters)
            box = tuple(some_interval(random, random.choice([3, ONE, 3 * ONE])) for _ in range(letters))
            found += self.check(system, box, random.choice([1, 2 ** 20, ONE // 40, ONE // 4]), random.randint(0, 8))
        self.assertTrue(40 < found < 190)

    def test_grains(self):
        # No error is raised where numbers go beyond.
        self.assertIsNone(held_box(BURSTS, ((2 ** 55, 2 ** 55 + 1),), 1, 5))
        self.assertIsNone(held_box(GROWS, ((MOST, MOST),), ONE, 5))
        self.assertIsNone(held_box(GROWS, ((MOST // 2, MOST // 2),), 8 * ONE, 40))
        near = ((MOST - 2, MOST - 2),)
        told = held_box(STILL, near, ONE, 3)
        self.assertTrue(told is not None and stays(STILL, near, ONE, told))

    def test_courses_lie_in_it(self):
        random = Random(83)
        for name, (system, course) in KNOWN.items():
            step = ONE // 5
            held = held_box(system, STARTS[name], step, 40)
            self.assertIsNotNone(held, name)
            for point in starts(STARTS[name], random, 4):
                for k in range(7):
                    self.assertTrue(lies_in(course(point, Fraction(k * step, 6 * ONE)), held), name)
        self.assertLess(NEAR, Fraction(1, ONE))
