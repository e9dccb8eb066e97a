"""[146], [147]: running back."""

import unittest
from fractions import Fraction
from random import Random

from tests.courses import BOXES as STARTS, CLOCK, FALLS, GROWS, KNOWN, STILL, TURNS, lies_in, starts, system
from tests.reference import some_poly
from tests.support import BOX, BOXES, ONE, SETTING, SYSTEM, check_calls, counts_wrong
from tests.test_grids import NO_COUNTS
from truecourse.backward import back_system, came_from, may_lead
from truecourse.errors import InvalidCounts, InvalidTarget, InvalidTime
from truecourse.grids import cell_box, cells, cells_meeting
from truecourse.polys import poly_scaled
from truecourse.runs import box_at, end_time, is_run
from truecourse.settings import plain_settings

NO_BOXES = BOXES + [((0, 1),) * 2]
TIMES = (InvalidTime, counts_wrong(0, 480 * ONE))
TARGET = (InvalidTarget, NO_BOXES)
PLAIN = plain_settings("box", 4)


class TestBack(unittest.TestCase):
    def test_errors(self):
        check_calls(self, back_system, [("system", FALLS, SYSTEM)])
        check_calls(self, came_from, [("system", FALLS, SYSTEM), ("target", ((3, 9),), TARGET), ("time", 9, TIMES), ("settings", PLAIN, SETTING)])
        check_calls(self, may_lead, [
            ("system", FALLS, SYSTEM), ("box", ((0, 9),), (BOX[0], NO_BOXES)), ("counts", (3,), (InvalidCounts, NO_COUNTS + [(3, 1)])),
            ("target", ((3, 9),), TARGET), ("time", 9, TIMES), ("settings", PLAIN, SETTING)])

    def test_systems(self):
        self.assertEqual(back_system(FALLS), GROWS)
        self.assertEqual(back_system(STILL), STILL)
        random = Random(146)
        for _ in range(20):
            own = ("system", ("x", "y"), tuple(some_poly(random, 2, 4, 3) for _ in range(2)))
            self.assertEqual(back_system(own), own[:2] + (tuple(poly_scaled(poly, (-1, 1)) for poly in own[2]),))
            self.assertEqual(back_system(back_system(own)), own)

    def test_came_from(self):
        told = came_from(CLOCK, ((ONE, 2 * ONE),), ONE, PLAIN)
        self.assertEqual(told[0], "whole")
        self.assertIs(is_run(told[1]), True)
        self.assertEqual(told[1][:3], ("run", back_system(CLOCK), ((ONE, 2 * ONE),)))
        self.assertEqual(end_time(told[1]), ONE)
        self.assertEqual(box_at(told[1], ONE), ((0, ONE),))
        # Back in time it runs off: the run is spent.
        told = came_from(system("x", [((2,), (-1, 1))]), ((ONE, ONE),), 2 * ONE, PLAIN)
        self.assertEqual((told[0], len(told)), ("spent", 3))
        self.assertIs(is_run(told[1]), True)

    def test_may_lead(self):
        box = ((-2 * ONE, 6 * ONE),)
        self.assertEqual(may_lead(CLOCK, box, (8,), ((ONE, 2 * ONE),), ONE, PLAIN), [(1,), (2,), (3,)])
        self.assertEqual(may_lead(CLOCK, box, (8,), ((ONE + 1, 2 * ONE - 1),), ONE, PLAIN), [(2,)])
        self.assertEqual(may_lead(CLOCK, box, (8,), ((ONE, 2 * ONE),), 0, PLAIN), [(2,), (3,), (4,)])
        self.assertEqual(may_lead(CLOCK, box, (8,), ((9 * ONE, 9 * ONE),), ONE, PLAIN), [])
        # A run that does not go to the time tells nothing: all cells may.
        burst = system("x", [((2,), (-1, 1))])
        self.assertEqual(may_lead(burst, box, (8,), ((ONE, ONE),), 2 * ONE, PLAIN), cells((8,)))
        self.assertEqual(may_lead(CLOCK, box, (8,), ((ONE, 2 * ONE),), ONE, ("settings", "box", 1, 1, 1, 1, 1, 0)), cells((8,)))

    def test_by_a_run(self):
        for kind in ("box", "set"):
            settings = plain_settings(kind, 5)
            target = ((ONE // 2, ONE), (0, ONE // 2))
            told = may_lead(TURNS, ((-2 * ONE, 2 * ONE),) * 2, (9, 9), target, ONE, settings)
            run = came_from(TURNS, target, ONE, settings)[1]
            self.assertEqual(told, cells_meeting(((-2 * ONE, 2 * ONE),) * 2, (9, 9), box_at(run, ONE)))
            self.assertTrue(0 < len(told) < 81)

    def test_facts(self):
        """[146], [147]: what comes to the target lies in the box told back, and in cells that may lead."""
        random = Random(147)
        for name, (own, course) in KNOWN.items():
            box, time = STARTS[name], ONE // 2
            points = starts(box, random, 4)
            for kind in ("box", "set"):
                chosen = course(random.choice(points), Fraction(1, 2))
                target = tuple((int(x * ONE) - ONE // 30, int(x * ONE) + ONE // 30) for x in chosen)
                settings = plain_settings(kind, 5)
                counts = tuple(2 if k < 2 else 1 for k in range(len(box)))
                led = may_lead(own, box, counts, target, time, settings)
                told = came_from(own, target, time, settings)
                seen = 0
                for point in points:
                    if not lies_in(course(point, Fraction(1, 2)), target):
                        continue
                    seen += 1
                    self.assertTrue(any(lies_in(point, cell_box(box, counts, cell)) for cell in led), name)
                    if told[0] == "whole":
                        self.assertTrue(lies_in(point, box_at(told[1], time)), name)
                        self.assertTrue(lies_in(course(point, Fraction(1, 6)), box_at(told[1], ONE // 3)), name)
                self.assertGreater(seen, 0)
