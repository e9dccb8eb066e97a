"""[102] to [105]: RUNS and their boxes."""

import unittest
from fractions import Fraction
from random import Random

from tests import formulas
from tests.courses import BOXES as STARTS, CLOCK, FALLS, KNOWN, TURNS, lies_in, starts
from tests.support import MOST, ONE, OTHERS, check_calls, counts_wrong, refuses, with_part
from tests.test_carried import PLAIN
from truecourse.carried import carried_during
from truecourse.choosing import carried
from truecourse.during import during_box
from truecourse.errors import InvalidRun, InvalidTime
from truecourse.runners import run as run_to
from truecourse.runs import begins, box_at, box_between, end_time, is_beginning, is_run, run_kinds
from truecourse.sets import set_hull, set_of_box
from truecourse.settings import plain_settings
from truecourse.steps import step_paper

ZERO = ((0, 0),)
TICKS = (("step", ZERO, ONE, 2, ((0, ONE),), ((ONE, ONE),)),
         ("step", ((ONE, ONE),), ONE, 2, ((ONE, 3 * ONE),), ((2 * ONE, 2 * ONE),)))
TWICE = ("run", CLOCK, ZERO, TICKS)
NONE_YET = ("run", CLOCK, ZERO, ())


def set_run(own, box, step, many, papers):
    """A run of the kind set, paper by paper."""
    source, found = set_of_box(box), []
    for _ in range(papers):
        found.append(carried(own, source, step, many, 20))
        source = found[-1][5]
    return ("run", own, box, tuple(found))


TURNED = set_run(TURNS, ((ONE, ONE + 9), (0, 9)), ONE // 8, 4, 3)

RUNS = (InvalidRun, OTHERS + [
    3, "run", (), list(TWICE), TWICE[:3], TWICE + (1,), with_part(TWICE, 0, "runs"), with_part(TWICE, 0, None),
    with_part(TWICE, 1, FALLS), with_part(TWICE, 1, None), with_part(TWICE, 2, ((1, 1),)), with_part(TWICE, 2, ((0, 1),)),
    with_part(TWICE, 2, ZERO * 2), with_part(TWICE, 2, None), with_part(TWICE, 3, list(TICKS)), with_part(TWICE, 3, TICKS[1:]),
    with_part(TWICE, 3, TICKS[::-1]), with_part(TWICE, 3, TICKS[:1] * 2), with_part(TWICE, 3, (None,)), with_part(TWICE, 3, None),
    with_part(TWICE, 3, TICKS + TURNED[3]), with_part(TURNED, 3, TURNED[3][1:]), with_part(TURNED, 3, TURNED[3][::-1]),
    with_part(TURNED, 2, ((ONE, ONE + 9), (0, 8))), with_part(TURNED, 3, TURNED[3][:1] + TURNED[3][2:])])


class TestRuns(unittest.TestCase):
    def test_errors(self):
        check_calls(self, is_run, [("value", TWICE, (None, []))])
        for function in (run_kinds, end_time, begins):
            check_calls(self, function, [("run", TWICE, RUNS)])
        check_calls(self, is_beginning, [("run", TWICE, RUNS), ("other", TWICE, RUNS)])
        check_calls(self, box_at, [("run", TWICE, RUNS), ("time", 5, (InvalidTime, counts_wrong(0, 2 * ONE)))])
        check_calls(self, box_between, [
            ("run", TWICE, RUNS), ("early", 3, (InvalidTime, counts_wrong(0, 2 * ONE))),
            ("late", 5, (InvalidTime, counts_wrong(3, 2 * ONE)))])
        refuses(box_between, InvalidTime, {"value": 4}, TWICE, 5, 4)
        refuses(box_at, InvalidTime, {"value": 1}, NONE_YET, 1)

    def test_is_run(self):
        for value in [TWICE, NONE_YET, TURNED, with_part(TURNED, 3, TURNED[3][:2]), with_part(TWICE, 3, TICKS[:1])]:
            self.assertIs(is_run(value), True)
        for value in RUNS[1]:
            self.assertIs(is_run(value), False, value)

    def test_chains(self):
        # Of step papers the start may be within the first box, an end within the next one.
        first = ("step", ((-3, 3),), 5, 1, ((-3, 8),), ((1, 9),))
        for box, told in [(((1, 9),), True), (((0, 10),), True), (((1, 8),), False), (((2, 9),), False)]:
            second = ("step", box, 5, 1, ((box[0][0], box[0][1] + 5),), ((0, 20),))
            self.assertIs(is_run(("run", CLOCK, ((-3, 3),), (first, second))), told, box)
        for start, told in [(((-3, 3),), True), (((0, 0),), True), (((-4, 3),), False), (((-3, 4),), False)]:
            self.assertIs(is_run(("run", CLOCK, start, (first,))), told)
        # Of carried papers sets must be the very ones.
        self.assertIs(is_run(with_part(TURNED, 2, ((ONE, ONE + 8), (0, 9)))), False)
        target = TURNED[3][0][5]
        more = tuple((low - 1, high) for low, high in target[3])
        wider = with_part(TURNED[3][0], 5, with_part(target, 3, more))
        self.assertIs(is_run(with_part(TURNED, 3, (wider,))), True)
        self.assertIs(is_run(with_part(TURNED, 3, (wider,) + TURNED[3][1:])), False)

    def test_kinds_do_not_mix(self):
        box = set_hull(TURNED[3][0][5])
        step = step_paper(TURNS, box, ONE // 8, 4, 9)
        self.assertIs(is_run(("run", TURNS, box, (step,))), True)
        self.assertIs(is_run(with_part(TURNED, 3, TURNED[3][:1] + (step,))), False)

    def test_sixty(self):
        still = ("system", ("x",), ((),))
        paper = ("step", ZERO, 8 * ONE, 8, ZERO, ZERO)
        self.assertIs(is_run(("run", still, ZERO, (paper,) * 60)), True)
        self.assertIs(is_run(("run", still, ZERO, (paper,) * 61)), False)
        self.assertEqual(end_time(("run", still, ZERO, (paper,) * 60)), 480 * ONE)
        self.assertEqual(box_at(("run", still, ZERO, (paper,) * 60), 480 * ONE), ZERO)

    def test_taken(self):
        for place, part in [(2, ONE - 1), (4, ((0, ONE - 1),)), (5, ((ONE + 1, ONE + 1),)), (1, ((-1, 0),)), (3, 0)]:
            self.assertIs(is_run(with_part(TWICE, 3, (with_part(TICKS[0], place, part),))), False)

    def test_kinds_and_times(self):
        self.assertEqual([run_kinds(value) for value in (TWICE, TURNED, NONE_YET)], [["box"], ["set"], ["box", "set"]])
        self.assertEqual([end_time(value) for value in (TWICE, TURNED, NONE_YET)], [2 * ONE, 3 * ONE // 8, 0])
        self.assertEqual(begins(TWICE), [0, ONE, 2 * ONE])
        self.assertEqual(begins(NONE_YET), [0])
        self.assertEqual(begins(TURNED), [0, ONE // 8, ONE // 4, 3 * ONE // 8])

    def test_beginnings(self):
        once = with_part(TWICE, 3, TICKS[:1])
        self.assertEqual([is_beginning(a, b) for a in (NONE_YET, once, TWICE) for b in (NONE_YET, once, TWICE)],
                         [True, True, True, False, True, True, False, False, True])
        other = ("run", CLOCK, ((0, 1),), ())
        self.assertIs(is_beginning(other, TWICE), False)
        self.assertIs(is_beginning(("run", PLAIN, ((0, 0), (0, 0)), ()), TURNED), False)


class TestBoxes(unittest.TestCase):
    def test_at(self):
        self.assertEqual(box_at(NONE_YET, 0), ZERO)
        self.assertEqual([box_at(TWICE, time) for time in (0, 1, ONE, ONE + 7, 2 * ONE)], [
            ZERO, ((1, 1),), ((ONE, ONE),), ((ONE + 7, ONE + 7),), ((2 * ONE, 2 * ONE),)])
        # Where a paper ends its own end box is told; at 0 the start, not the first paper's box.
        wide = ("step", ((-5, 5),), 9, 1, ((-5, 14),), ((0, 99),))
        behind = ("step", ((0, 99),), 9, 1, ((0, 108),), ((0, 200),))
        run = ("run", CLOCK, ((1, 2),), (wide, behind))
        self.assertEqual([box_at(run, time) for time in (0, 1, 9, 10, 18)], [
            ((1, 2),), ((-4, 6),), ((0, 99),), ((1, 100),), ((0, 200),)])
        self.assertEqual(box_at(TURNED, ONE // 8), set_hull(TURNED[3][0][5]))
        self.assertEqual(box_at(TURNED, 0), TURNED[2])
        self.assertEqual(box_at(TURNED, ONE // 8 + 5), carried_during(TURNS, TURNED[3][1], 5, 5))
        self.assertEqual(box_at(TURNED, 3 * ONE // 8), set_hull(TURNED[3][2][5]))

    def test_between(self):
        self.assertEqual(box_between(NONE_YET, 0, 0), ZERO)
        for early, late in [(0, ONE), (ONE, 2 * ONE), (ONE // 2, ONE + 5), (0, 2 * ONE), (3, 3), (ONE, ONE), (ONE - 1, ONE)]:
            self.assertEqual(box_between(TWICE, early, late), ((early, late),))
        # Equal times tell the box at the time; else only the papers count in whose steps they lie.
        wide = ("step", ((-5, 5),), 9, 1, ((-5, 14),), ((0, 99),))
        behind = ("step", ((0, 99),), 9, 1, ((0, 108),), ((0, 200),))
        run = ("run", CLOCK, ((1, 2),), (wide, behind))
        for early, late, told in [(0, 0, ((1, 2),)), (9, 9, ((0, 99),)), (0, 9, ((-5, 14),)), (0, 1, ((-5, 6),)), (9, 10, ((0, 100),)),
                                  (8, 9, ((3, 14),)), (8, 10, ((0, 100),)), (8, 18, ((0, 108),)), (18, 18, ((0, 200),))]:
            self.assertEqual(box_between(run, early, late), told, (early, late))

    def test_by_the_formula(self):
        random = Random(104)
        for value in (run_to(TURNS, ((ONE, ONE + 9), (0, 9)), ONE, plain_settings("box", 3))[1], TURNED):
            during = carried_during if value is TURNED else during_box
            times = begins(value)
            for _ in range(8):
                early, late = sorted(random.choice([random.choice(times), random.randint(0, times[-1])]) for _ in range(2))
                parts = [
                    during(TURNS, paper, max(early - begin, 0), min(late - begin, paper[2]))
                    for begin, paper in zip(times, value[3]) if begin < late and begin + paper[2] > early]
                if early == late:
                    self.assertEqual(box_between(value, early, late), box_at(value, early))
                    continue
                told = parts[0]
                for part in parts[1:]:
                    told = tuple(formulas.hull(one, other) for one, other in zip(told, part))
                self.assertEqual(box_between(value, early, late), told)

    def test_courses(self):
        """[105]: from many starts, for runs of both kinds, at ends, within steps, and between."""
        random = Random(105)
        for name, (own, course) in KNOWN.items():
            for kind, many in (("box", 3), ("box", 8), ("set", 2), ("set", 6)):
                told = run_to(own, STARTS[name], ONE, plain_settings(kind, many))
                value = told[1]
                self.assertIs(is_run(value), True)
                self.assertIn(kind, run_kinds(value))
                self.assertEqual(told[0], "whole", (name, kind, many))
                times = begins(value)
                some = random.sample(times, min(3, len(times))) + [times[-1]] + [random.randint(0, times[-1]) for _ in range(4)]
                points = starts(STARTS[name], random, 3)
                for time in some:
                    box = box_at(value, time)
                    for point in points:
                        self.assertTrue(lies_in(course(point, Fraction(time, ONE)), box), (name, kind))
                for _ in range(2):
                    early, late = sorted(random.sample(some, 2))
                    box = box_between(value, early, late)
                    for point in points:
                        for k in range(4):
                            time = (early + Fraction(late - early) * k / 3) / ONE
                            self.assertTrue(lies_in(course(point, time), box), (name, kind))

    def test_grains(self):
        edge = ("step", ((MOST - 2, MOST - 2),), 2, 1, ((MOST - 2, MOST),), ((MOST, MOST),))
        run = ("run", CLOCK, edge[1], (edge,))
        self.assertIs(is_run(run), True)
        self.assertEqual(box_at(run, 2), ((MOST, MOST),))
        self.assertIs(is_run(("run", CLOCK, ((MOST - 1, MOST - 1),), (edge,))), False)
