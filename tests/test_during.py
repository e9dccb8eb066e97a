"""[7], [85], [86]: the times within a step, and steps cut in two."""

import unittest
from fractions import Fraction
from random import Random

from tests import formulas
from tests.courses import BOXES as STARTS, BURSTS, CLOCK, FALLS, KNOWN, STILL, TURNS, lies_in, starts
from tests.support import MOST, ONE, OTHERS, ROOM, SYSTEM, check_calls, counts_wrong, refuses, with_part
from tests.test_steps import PAPER, QUARTER, UNIT
from truecourse.boxes import box_within
from truecourse.during import cut_step, during_box
from truecourse.errors import InvalidPaper, InvalidRoom, InvalidTime
from truecourse.steps import end_box, is_step, step_paper

PAPERS = (InvalidPaper, OTHERS + [
    3, "x", (), list(PAPER), PAPER[:5], with_part(PAPER, 5, ((3 * QUARTER + 1, ONE),)), with_part(PAPER, 4, ((0, ONE - 1),)),
    with_part(PAPER, 2, True), ("step", UNIT * 2, 1, 1, UNIT * 2, UNIT * 2)])


class TestDuring(unittest.TestCase):
    def test_errors(self):
        check_calls(self, during_box, [
            ("system", FALLS, SYSTEM), ("paper", PAPER, PAPERS), ("early", 3, (InvalidTime, counts_wrong(0, QUARTER))),
            ("late", 5, (InvalidTime, counts_wrong(3, QUARTER)))])
        refuses(during_box, InvalidTime, {"value": 4}, FALLS, PAPER, 5, 4)
        refuses(during_box, InvalidTime, {"value": QUARTER + 1}, FALLS, PAPER, QUARTER + 1, QUARTER)

    def test_by_hand(self):
        self.assertEqual(during_box(FALLS, PAPER, 0, 0), UNIT)
        self.assertEqual(during_box(FALLS, PAPER, ONE // 8, ONE // 8), ((7 * ONE // 8, ONE),))
        self.assertEqual(during_box(FALLS, PAPER, 0, QUARTER), ((3 * QUARTER, ONE),))
        self.assertEqual(during_box(FALLS, PAPER, QUARTER, QUARTER), end_box(FALLS, UNIT, QUARTER, 1, PAPER[4]))
        clock = ("step", ((0, 5),), 8 * ONE, 2, ((0, 8 * ONE + 5),), ((8 * ONE, 8 * ONE + 5),))
        self.assertEqual(during_box(CLOCK, clock, 3, 8), ((3, 13),))
        still = ("step", ((3, 4),), 1, 1, ((3, 4),), ((3, 4),))
        self.assertEqual([during_box(STILL, still, 0, late) for late in (0, 1)], [((3, 4),)] * 2)

    def test_formula_and_courses(self):
        random = Random(86)
        for name, (system, course) in KNOWN.items():
            for many in (1, 3, 8):
                step = ONE // random.randint(4, 20)
                paper = step_paper(system, STARTS[name], step, many, 40)
                whole = during_box(system, paper, 0, step)
                self.assertTrue(box_within(whole, paper[4]))
                self.assertEqual(during_box(system, paper, step, step), end_box(system, STARTS[name], step, many, paper[4]))
                for _ in range(3):
                    early, late = sorted(random.randint(0, step) for _ in range(2))
                    told = during_box(system, paper, early, late)
                    self.assertEqual(told, formulas.during(system[2], STARTS[name], early, late, many, paper[4]))
                    at_once = during_box(system, paper, early, early)
                    for point in starts(STARTS[name], random, 2):
                        for k in range(3):
                            time = Fraction(early) + Fraction((late - early) * k, 2)
                            self.assertTrue(lies_in(course(point, time / ONE), told))
                        self.assertTrue(lies_in(course(point, Fraction(early, ONE)), at_once))

    def test_grains(self):
        rate = ("system", ("x",), ((((0,), (1, 1)),),))
        end = MOST - ONE
        paper = ("step", ((end, end),), ONE, 1, ((end, MOST),), ((MOST, MOST),))
        self.assertIs(is_step(rate, paper), True)
        self.assertEqual(during_box(rate, paper, 0, ONE), ((end, MOST),))
        self.assertEqual(during_box(rate, paper, 5, 7), ((end + 5, end + 7),))


class TestCut(unittest.TestCase):
    def check(self, system, paper, time, room):
        told = cut_step(system, paper, time, room)
        if told is None:
            return False
        self.assertIsInstance(told, list)
        first, second = told
        for part in told:
            self.assertIs(is_step(system, part), True)
        self.assertEqual((first[1], first[2], first[3]), (paper[1], time, paper[3]))
        self.assertEqual((second[1], second[2], second[3]), (first[5], paper[2] - time, paper[3]))
        return True

    def test_errors(self):
        check_calls(self, cut_step, [
            ("system", FALLS, SYSTEM), ("paper", PAPER, PAPERS), ("time", 3, (InvalidTime, counts_wrong(1, QUARTER - 1))),
            ("room", 3, ROOM)])
        refuses(cut_step, InvalidRoom, {"value": -1}, FALLS, PAPER, 1, -1)
        tick = ("step", ((0, 0),), 1, 1, ((0, 1),), ((1, 1),))
        refuses(cut_step, InvalidTime, {"value": 1}, CLOCK, tick, 1, 3)

    def test_cut(self):
        for time in (1, 2, ONE // 8, QUARTER - 1):
            for room in (0, 1, 40):
                self.assertTrue(self.check(FALLS, PAPER, time, room))
        random = Random(87)
        for name, (system, _) in KNOWN.items():
            step = ONE // 20
            for many in (1, 4, 8):
                paper = step_paper(system, STARTS[name], step, many, 40)
                for time in (1, random.randint(1, step - 1), step - 1):
                    self.assertTrue(self.check(system, paper, time, 9), name)

    def test_found_at_least(self):
        """Where the held box holds the courses of the second part, too, both are found, without room."""
        random = Random(88)
        seen = set()
        for name, (system, _) in KNOWN.items():
            for _ in range(4):
                step = ONE // random.randint(3, 9)
                paper = step_paper(system, STARTS[name], step, random.randint(1, 2), 40)
                time = random.randint(1, step - 1)
                between = during_box(system, paper, time, time)
                holds = formulas.holds(system[2], between, step - time, paper[4])
                told = self.check(system, paper, time, 0)
                self.assertTrue(told or not holds)
                seen.add(told)
        self.assertEqual(seen, {True, False})

    def test_grains(self):
        box, held = ((2 ** 54, 2 ** 54),), ((2 ** 54 - 2 ** 30, 2 ** 54 + 2 ** 30),)
        paper = ("step", box, 2, 1, held, ((-MOST, MOST),))
        self.assertIs(is_step(BURSTS, paper), True)
        self.assertTrue(self.check(BURSTS, paper, 1, 5))
        rate = ("system", ("x",), ((((0,), (1, 1)),),))
        edge = ("step", ((MOST - 2, MOST - 2),), 2, 1, ((MOST - 2, MOST),), ((MOST, MOST),))
        self.assertIs(is_step(rate, edge), True)
        self.assertTrue(self.check(rate, edge, 1, 0))

    def test_turns(self):
        paper = step_paper(TURNS, ((ONE, ONE), (0, 0)), ONE // 4, 8, 9)
        first, second = cut_step(TURNS, paper, ONE // 8, 9)
        self.assertTrue(all(high - low < 1000 for low, high in first[5] + second[5]))
