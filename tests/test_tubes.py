"""[104], [105]: tubes."""

import unittest
from fractions import Fraction
from random import Random

from tests.courses import BOXES as STARTS, KNOWN, lies_in, starts
from tests.support import BOXES, ONE, check_calls, counts_wrong, refuses
from tests.test_runs import NONE_YET, RUNS, TURNED, TWICE, ZERO
from truecourse.boxes import box_within
from truecourse.errors import InvalidBox, InvalidMany
from truecourse.runners import run as run_to
from truecourse.runs import box_between, end_time
from truecourse.settings import plain_settings
from truecourse.tubes import lies_in as lies_in_box, tube, tube_hull

MANY = (InvalidMany, counts_wrong(1, 64))


class TestTubes(unittest.TestCase):
    def test_errors(self):
        check_calls(self, tube, [("run", TWICE, RUNS), ("many", 3, MANY)])
        check_calls(self, tube_hull, [("run", TWICE, RUNS)])
        check_calls(self, lies_in_box, [
            ("run", TWICE, RUNS), ("many", 3, MANY), ("box", ((0, ONE),), (InvalidBox, BOXES + [ZERO * 2]))])
        refuses(lies_in_box, InvalidMany, {"value": 65}, TWICE, 65, None)

    def test_boxes(self):
        self.assertEqual(tube(TWICE, 1), [((0, 2 * ONE),)])
        self.assertEqual(tube(TWICE, 2), [((0, ONE),), ((ONE, 2 * ONE),)])
        third = 2 * ONE // 3
        self.assertEqual(tube(TWICE, 3), [((0, third),), ((third, 2 * third + 1),), ((2 * third + 1, 2 * ONE),)])
        self.assertEqual(len(tube(TWICE, 64)), 64)
        self.assertEqual(tube(NONE_YET, 3), [ZERO] * 3)
        self.assertEqual([tube_hull(value) for value in (TWICE, NONE_YET)], [((0, 2 * ONE),), ZERO])
        end = end_time(TURNED)
        self.assertEqual(tube(TURNED, 5), [box_between(TURNED, j * end // 5, (j + 1) * end // 5) for j in range(5)])
        self.assertEqual(tube_hull(TURNED), box_between(TURNED, 0, end))

    def test_fewer_grains_than_boxes(self):
        short = ("run", TWICE[1], ZERO, (("step", ZERO, 3, 1, ((0, 3),), ((3, 3),)),))
        self.assertEqual(tube(short, 4), [ZERO, ((0, 1),), ((1, 2),), ((2, 3),)])
        self.assertEqual(tube(short, 6), [ZERO, ((0, 1),), ((1, 1),), ((1, 2),), ((2, 2),), ((2, 3),)])

    def test_lies_in(self):
        for box, told in [(((0, 2 * ONE),), True), (((0, 2 * ONE - 1),), False), (((1, 2 * ONE),), False), (((-1, 3 * ONE),), True)]:
            for many in (1, 4, 64):
                self.assertIs(lies_in_box(TWICE, many, box), told)
        self.assertIs(lies_in_box(NONE_YET, 1, ZERO), True)
        self.assertIs(lies_in_box(NONE_YET, 1, ((1, 1),)), False)

    def test_courses(self):
        random = Random(106)
        for name, (own, course) in KNOWN.items():
            for kind in ("box", "set"):
                value = run_to(own, STARTS[name], ONE, plain_settings(kind, 5))[1]
                end = end_time(value)
                many = random.randint(2, 9)
                boxes = tube(value, many)
                hull = tube_hull(value)
                self.assertIs(lies_in_box(value, many, hull), all(box_within(box, hull) for box in boxes))
                for point in starts(STARTS[name], random, 2):
                    for j, box in enumerate(boxes):
                        for k in range(3):
                            time = j * end // many + Fraction((j + 1) * end // many - j * end // many) * k / 2
                            row = course(point, time / ONE)
                            self.assertTrue(lies_in(row, box), (name, kind))
                            self.assertTrue(lies_in(row, hull), (name, kind))
