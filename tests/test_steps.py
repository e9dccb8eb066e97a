"""[7], [82] to [84], [87]: ends of steps and STEP PAPERS."""

import unittest
from fractions import Fraction
from random import Random

from tests import formulas
from tests.courses import BOXES as STARTS, BURSTS, CLOCK, FALLS, GROWS, KNOWN, STILL, TURNS, lies_in, starts
from tests.reference import some_interval
from tests.support import (
    BOXES, MOST, ONE, ORDER, OTHERS, ROOM, STEP, SYSTEM, check_calls, refuses, too_many, with_part)
from tests.test_series import some_system
from truecourse.errors import InvalidBox, InvalidMany, InvalidSystem, NotHeld
from truecourse.held import held_box, stays
from truecourse.steps import end_box, is_step, step_paper

BOX = (InvalidBox, BOXES + [((0, 1),), ((0, 1),) * 3])
UNIT = ((ONE, ONE),)
QUARTER = ONE // 4
PAPER = ("step", UNIT, QUARTER, 1, ((0, ONE),), ((3 * QUARTER, ONE),))
TWICE = ((0, 5), (7, 9))
WIDE = ((-ONE, ONE), (-ONE, ONE))


class TestEnds(unittest.TestCase):
    def test_errors(self):
        check_calls(self, end_box, [
            ("system", TURNS, SYSTEM), ("box", TWICE, BOX), ("step", 5, STEP), ("many", 3, ORDER), ("held", WIDE, BOX)])
        refuses(end_box, InvalidMany, {"value": 9}, FALLS, UNIT, QUARTER, 9, None)
        refuses(end_box, NotHeld, {}, FALLS, UNIT, QUARTER, 1, ((0, ONE - 1),))
        refuses(end_box, NotHeld, {}, FALLS, UNIT, QUARTER, 8, ((3 * QUARTER + 1, ONE),))

    def test_by_hand(self):
        # 1 less 1/4 times 0 to 1; of the order 2: 1 - 1/4 + 1/32 times 0 to 1.
        self.assertEqual(end_box(FALLS, UNIT, QUARTER, 1, ((0, ONE),)), ((3 * QUARTER, ONE),))
        self.assertEqual(end_box(FALLS, UNIT, QUARTER, 2, ((0, ONE),)), ((3 * QUARTER, 3 * QUARTER + ONE // 32),))
        # The meet with the held box counts.
        self.assertEqual(end_box(FALLS, UNIT, ONE, 1, ((0, ONE),)), ((0, ONE),))
        self.assertEqual(end_box(FALLS, ((ONE // 2, ONE),), ONE // 2, 1, ((0, ONE),)), ((0, ONE),))
        self.assertEqual(end_box(CLOCK, ((0, 5),), 8 * ONE, 2, ((0, 9 * ONE),)), ((8 * ONE, 8 * ONE + 5),))

    def test_by_the_formula(self):
        random = Random(84)
        done = 0
        for k in range(150):
            letters = 1 + k % 3
            system = some_system(random, letters, 3, 2)
            box = tuple(some_interval(random, ONE) for _ in range(letters))
            step, many = random.choice([1, ONE // 50, ONE // 9]), random.randint(1, 8)
            held = held_box(system, box, step, 20)
            if held is None:
                continue
            wanted = formulas.end(system[2], box, step, many, held)
            self.assertEqual(end_box(system, box, step, many, held), wanted)
            paper = ("step", box, step, many, held, wanted)
            self.assertIs(is_step(system, paper), True)
            done += 1
        self.assertGreater(done, 60)

    def test_grains(self):
        # The order 2 needs the second coefficient on the held box, 2 ** 90 in size; the order 1 does not.
        held = ((2 ** 54, 2 ** 54 + 2 ** 30),)
        box = ((2 ** 54, 2 ** 54),)
        self.assertIs(stays(BURSTS, box, 1, held), True)
        self.assertEqual(end_box(BURSTS, box, 1, 1, held), ((2 ** 54 + 2 ** 28, 2 ** 54 + 2 ** 28 + 2 ** 5 + 1),))
        too_many(end_box, "grains", MOST, BURSTS, box, 1, 2, held)
        # Ahead of NotHeld, whichever it is for: held or not is not told, or the end is not.
        too_many(end_box, "grains", MOST, BURSTS, box, 1, 1, ((2 ** 55, 2 ** 55 + 1),))
        too_many(end_box, "grains", MOST, BURSTS, box, 1, 2, ((2 ** 54, 2 ** 54),))
        refuses(end_box, NotHeld, {}, BURSTS, box, 1, 1, ((2 ** 54, 2 ** 54),))


class TestPapers(unittest.TestCase):
    def test_errors(self):
        check_calls(self, is_step, [("system", FALLS, SYSTEM), ("value", PAPER, (None, []))])
        check_calls(self, step_paper, [
            ("system", TURNS, SYSTEM), ("box", TWICE, BOX), ("step", 5, STEP), ("many", 3, ORDER), ("room", 3, ROOM)])
        refuses(is_step, InvalidSystem, {"value": None}, None, None)

    def test_forms(self):
        self.assertIs(is_step(FALLS, PAPER), True)
        for place, part in [
                (0, "steps"), (0, None), (0, True), (1, [(ONE, ONE)]), (1, None), (1, UNIT * 2), (1, ()), (1, ((True, ONE),)), (2, 0),
                (2, 8 * ONE + 1), (2, True), (2, None), (2, "1"), (3, 0), (3, 9), (3, True), (3, None), (3, (1,)), (4, None),
                (4, ((0, ONE),) * 2), (4, [(0, ONE)]), (4, ((ONE, 0),)), (5, None), (5, ((0, ONE),) * 2), (5, ((0, MOST + 1),)), (5, ())]:
            self.assertIs(is_step(FALLS, with_part(PAPER, place, part)), False, (place, part))
        for value in OTHERS + [(), PAPER[:5], PAPER + (None,), list(PAPER), "step", 3, ("step",)]:
            self.assertIs(is_step(FALLS, value), False, value)
        self.assertIs(is_step(TURNS, PAPER), False)

    def test_least(self):
        """Each part of a paper otherwise by the least that can be."""
        for place, part, told in [
                (1, ((ONE - 1, ONE),), False), (1, ((ONE, ONE + 1),), False), (2, QUARTER + 1, False), (2, QUARTER - 1, True),
                (4, ((0, ONE - 1),), False), (4, ((0, ONE + 1),), False), (4, ((1, ONE),), True), (4, ((-1, ONE),), False),
                (5, ((3 * QUARTER + 1, ONE),), False), (5, ((3 * QUARTER, ONE - 1),), False), (5, ((3 * QUARTER - 1, ONE),), True),
                (5, ((3 * QUARTER, ONE + 1),), True), (3, 2, True), (3, 8, True)]:
            value = with_part(PAPER, place, part)
            # By the formulas, told once more.
            _, box, step, many, held, end = value
            wanted = formulas.holds(FALLS[2], box, step, held) and formulas.box_within(
                formulas.end(FALLS[2], box, step, many, held), end)
            self.assertIs(wanted, told, (place, part))
            self.assertIs(is_step(FALLS, value), told, (place, part))
        low = with_part(PAPER, 5, ((3 * QUARTER, 3 * QUARTER + ONE // 32),))
        self.assertEqual([is_step(FALLS, with_part(low, 3, many)) for many in (1, 2)], [False, True])

    def test_steps_of_all_lengths(self):
        for step in (1, 8 * ONE):
            self.assertIs(is_step(CLOCK, ("step", ((0, 0),), step, 1, ((0, step),), ((step, step),))), True)
            self.assertIs(is_step(CLOCK, ("step", ((0, 0),), step, 8, ((0, step),), ((step, step),))), True)
        self.assertIs(is_step(CLOCK, ("step", ((0, 0),), 8 * ONE + 1, 1, ((0, 9 * ONE),), ((0, 9 * ONE),))), False)
        still = ("step", ((3, 3),), 8 * ONE, 8, ((3, 3),), ((3, 3),))
        self.assertIs(is_step(STILL, still), True)
        self.assertIs(is_step(STILL, with_part(still, 5, ((4, 4),))), False)

    def test_papers_stay_taken(self):
        # [87]: for smaller starts, wider ends, and shorter steps with a right end.
        paper = step_paper(TURNS, ((ONE, ONE + 9), (0, 9)), ONE // 8, 3, 9)
        self.assertIs(is_step(TURNS, paper), True)
        smaller = with_part(paper, 1, ((ONE + 3, ONE + 5), (9, 9)))
        wider = with_part(paper, 5, tuple((low - 7, high + 1) for low, high in paper[5]))
        for value in (smaller, wider):
            self.assertIs(is_step(TURNS, value), True)
        end = end_box(TURNS, paper[1], ONE // 9, 3, paper[4])
        self.assertIs(is_step(TURNS, ("step", paper[1], ONE // 9, 3, paper[4], end)), True)

    def test_grains(self):
        box, held = ((2 ** 54, 2 ** 54),), ((2 ** 54, 2 ** 54 + 2 ** 30),)
        end = ((-MOST, MOST),)
        self.assertIs(is_step(BURSTS, ("step", box, 1, 1, held, end)), True)
        self.assertIs(is_step(BURSTS, ("step", box, 1, 2, held, end)), False)
        self.assertIs(is_step(BURSTS, ("step", box, 1, 1, ((-MOST, MOST),), end)), False)
        self.assertIsNone(step_paper(BURSTS, box, 1, 2, 9))
        self.assertIs(is_step(BURSTS, step_paper(BURSTS, box, 1, 1, 9)), True)


class TestFound(unittest.TestCase):
    def test_found(self):
        for name, (system, _) in KNOWN.items():
            for step in (1, ONE // 100):
                for many in (1, 8):
                    paper = step_paper(system, STARTS[name], step, many, 1)
                    self.assertEqual(paper[:4], ("step", STARTS[name], step, many))
                    self.assertIs(is_step(system, paper), True)

    def test_none(self):
        self.assertIsNone(step_paper(FALLS, UNIT, QUARTER, 3, 0))
        self.assertIsNone(step_paper(BURSTS, UNIT, ONE, 3, 40))
        self.assertIsNone(step_paper(GROWS, UNIT, 8 * ONE, 8, 40))

    def test_courses(self):
        """[83], [84]: at the end all courses lie in the end box, all along in the held one."""
        random = Random(85)
        for name, (system, course) in KNOWN.items():
            for many in (1, 2, 3, 8):
                step = ONE // random.randint(4, 30)
                paper = step_paper(system, STARTS[name], step, many, 40)
                self.assertIs(is_step(system, paper), True, name)
                for point in starts(STARTS[name], random, 3):
                    self.assertTrue(lies_in(course(point, Fraction(step, ONE)), paper[5]), name)
                    for k in range(4):
                        self.assertTrue(lies_in(course(point, Fraction(k * step, 3 * ONE)), paper[4]), name)

    def test_orders_help(self):
        point = ((ONE, ONE), (0, 0))
        widths = [step_paper(TURNS, point, ONE // 16, many, 9)[5][0] for many in (1, 2, 4, 6)]
        widths = [high - low for low, high in widths]
        self.assertTrue(widths[0] > widths[1] > widths[2] > widths[3])
        self.assertLess(widths[3], 10000)
