"""[4], [105] to [107]: runs that go on until they are whole, or some room is spent."""

import unittest
from fractions import Fraction
from random import Random

from tests import formulas
from tests.courses import BOXES as STARTS, BURSTS, CLOCK, FALLS, GROWS, KNOWN, STILL, TURNS, lies_in, starts
from tests.support import (
    BOXES, MOST, ONE, SETTING, SETTINGS, SYSTEM, SYSTEMS, caught, check_calls, counts_wrong, refuses, with_part)
from tests.test_series import some_system
from truecourse.errors import InvalidBox, InvalidSettings, InvalidSystem, InvalidTime
from truecourse.runners import Runner, run
from truecourse.runs import begins, box_at, end_time, is_beginning, is_run, run_kinds
from truecourse.sets import set_hull
from truecourse.settings import plain_settings

ZERO = ((0, 0),)
UNIT = ((ONE, ONE),)
BOX = (InvalidBox, BOXES + [((0, 1),), ((0, 1),) * 3])
TIME = (InvalidTime, counts_wrong(0, 480 * ONE))
WORDS = ("width", "steps", "step", "grains")


def settings(kind="box", many=2, first=ONE, least=ONE, most=60, widest=99 * ONE, room=20):
    return ("settings", kind, many, first, least, most, widest, room)


def box_come_to(value):
    papers = value[3]
    if not papers:
        return value[2]
    return set_hull(papers[-1][5]) if papers[-1][0] == "carried" else papers[-1][5]


def check_papers(test, value, wanted, time):
    """All papers go by the settings; the last one may take all the time that is left."""
    _, kind, many, first, least, most, widest, _ = wanted
    test.assertIs(is_run(value), True)
    test.assertIn(kind, run_kinds(value))
    test.assertTrue(len(value[3]) <= most)
    begun = 0
    for k, paper in enumerate(value[3]):
        left = time - begun
        test.assertTrue(min(least, left) <= paper[2] <= min(first, left))
        test.assertEqual(paper[3], many)
        ahead = with_part(value, 3, value[3][:k])
        if kind == "box":
            test.assertEqual(paper[1], box_come_to(ahead))
        else:
            for number, under in [x for row in paper[5][2] for x in row] + list(paper[5][1]):
                test.assertTrue(abs(number) < 10 ** 40 and under < 10 ** 40)
        test.assertTrue(all(high - low <= widest for low, high in box_come_to(ahead)))
        begun += paper[2]


def check_word(test, value, wanted, word, left):
    """The word holds, and none of those ahead of it."""
    _, _, _, _, least, most, widest, room = wanted
    box = box_come_to(value)
    test.assertIn(word, WORDS)
    test.assertGreater(left, 0)
    is_wide = any(high - low > widest for low, high in box)
    is_full = len(value[3]) >= most
    if is_wide or is_full:
        test.assertEqual(word, "width" if is_wide else "steps")
        return
    test.assertIn(word, ("step", "grains"))
    step = min(least, left)
    try:
        holds = formulas.holds(value[1][2], box, step, formulas.trial(value[1][2], box, step))
    except formulas.Beyond:
        # Whether it holds can't be told: it isn't one that doesn't.
        holds = True
    test.assertEqual(word == "step", room == 0 or not holds)


def check_told(test, system, box, time, wanted):
    told = run(system, box, time, wanted)
    test.assertIsInstance(told, tuple)
    value = told[1]
    test.assertEqual(value[:3], ("run", system, box))
    check_papers(test, value, wanted, time)
    if told[0] == "whole":
        test.assertEqual(len(told), 2)
        test.assertEqual(end_time(value), time)
    else:
        test.assertEqual((told[0], len(told)), ("spent", 3))
        check_word(test, value, wanted, told[2], time - end_time(value))
    return told


class TestRun(unittest.TestCase):
    def test_errors(self):
        check_calls(self, run, [
            ("system", TURNS, SYSTEM), ("box", ((0, 5), (7, 9)), BOX), ("time", 9, TIME), ("settings", plain_settings("set", 2), SETTING)])
        refuses(run, InvalidTime, {"value": 480 * ONE + 1}, CLOCK, ZERO, 480 * ONE + 1, None)

    def test_whole(self):
        self.assertEqual(run(CLOCK, ZERO, 0, settings()), ("whole", ("run", CLOCK, ZERO, ())))
        told = check_told(self, CLOCK, ZERO, 3 * ONE, settings())
        self.assertEqual((told[0], len(told[1][3])), ("whole", 3))
        # The last step is all the time that is left, even if it is less than the least one.
        for time in (1, ONE - 1, ONE + 1, 5 * ONE + 7):
            for kind in ("box", "set"):
                told = check_told(self, CLOCK, ZERO, time, settings(kind))
                self.assertEqual(told[0], "whole")
        self.assertEqual(check_told(self, STILL, ZERO, 480 * ONE, settings(first=8 * ONE, least=8 * ONE))[0], "whole")
        self.assertEqual(check_told(self, STILL, ((0, 99 * ONE),), ONE, settings())[0], "whole")

    def test_width(self):
        wide = ((0, 100 * ONE),)
        self.assertEqual(run(CLOCK, wide, ONE, settings()), ("spent", ("run", CLOCK, wide, ()), "width"))
        self.assertEqual(run(CLOCK, wide, 0, settings())[0], "whole")
        # Ahead of all others: with steps, room and grains spent, too.
        self.assertEqual(run(BURSTS, ((0, MOST),), ONE, settings(room=0))[2], "width")
        told = check_told(self, GROWS, ((0, ONE),), 60 * ONE, settings(first=ONE // 4, least=1, widest=9 * ONE))
        self.assertEqual(told[2], "width")
        told = check_told(self, GROWS, ((0, ONE),), 60 * ONE, settings("set", 4, first=ONE // 4, least=1, widest=9 * ONE, most=9))
        self.assertIn(told[2], ("width", "steps"))
        self.assertEqual(run(STILL, ((0, 1),), ONE, settings(widest=1))[0], "whole")
        self.assertEqual(run(STILL, ((0, 2),), ONE, settings(widest=1))[2], "width")

    def test_steps(self):
        told = check_told(self, CLOCK, ZERO, 3 * ONE, settings(most=2))
        self.assertEqual((told[2], len(told[1][3])), ("steps", 2))
        told = check_told(self, CLOCK, ZERO, 61 * ONE, settings())
        self.assertEqual((told[2], len(told[1][3])), ("steps", 60))
        self.assertEqual(run(CLOCK, ZERO, 60 * ONE, settings())[0], "whole")
        self.assertEqual(run(CLOCK, ZERO, ONE, settings(most=1))[0], "whole")
        # Ahead of steps that are not found.
        told = check_told(self, BURSTS, UNIT, 9 * ONE, settings(first=ONE // 8, least=ONE // 8, most=1))
        self.assertEqual(told[2], "steps")

    def test_step(self):
        for kind in ("box", "set"):
            self.assertEqual(check_told(self, CLOCK, ZERO, ONE, settings(kind, room=0))[2], "step")
            self.assertEqual(check_told(self, BURSTS, UNIT, 2 * ONE, settings(kind))[2], "step")
            told = check_told(self, BURSTS, UNIT, 2 * ONE, settings(kind, first=ONE // 4, least=ONE // 8))
            self.assertEqual(told[2], "step")
            self.assertTrue(0 < end_time(told[1]) < ONE)
            # With the room 0 it is this word, whatever the numbers.
            self.assertEqual(check_told(self, BURSTS, ((MOST, MOST),), 1, settings(kind, room=0))[2], "step")
        self.assertEqual(check_told(self, GROWS, UNIT, 8 * ONE, settings(first=8 * ONE, least=8 * ONE, room=40))[2], "step")

    def test_grains(self):
        edge = ((2 ** 54, 2 ** 54),)
        for kind in ("box", "set"):
            # The trial box holds; the second coefficient on it needs too much.
            self.assertEqual(check_told(self, BURSTS, edge, 1, settings(kind))[2], "grains")
            self.assertEqual(check_told(self, BURSTS, edge, 1, settings(kind, 1))[0], "whole")
            # The trial box itself needs too much: then it isn't one that doesn't hold.
            self.assertEqual(check_told(self, BURSTS, ((MOST, MOST),), 1, settings(kind))[2], "grains")
            self.assertEqual(check_told(self, GROWS, ((MOST // 2, MOST // 2),), ONE, settings(kind))[2], "grains")

    def test_goes_on_where_it_can(self):
        """With what stands at the end another paper is found wherever [106] tells."""
        random = Random(107)
        seen = {}
        for k in range(80):
            letters = 1 + k % 3
            system = some_system(random, letters)
            box = tuple(tuple(sorted(random.randint(-ONE, ONE) for _ in range(2))) for _ in range(letters))
            if k % 2:
                box = tuple((low, low + 5) for low, _ in box)
            wanted = settings(random.choice(["box", "set"]), random.randint(1, 8), random.choice([ONE, ONE // 4]),
                              random.choice([1, ONE // 100, ONE // 9]), random.choice([3, 10]), random.choice([ONE, 50 * ONE]),
                              random.choice([0, 1, 6, 40]))
            told = check_told(self, system, box, random.choice([ONE, 3 * ONE]), wanted)
            word = told[0] if told[0] == "whole" else told[2]
            seen[word] = seen.get(word, 0) + 1
        self.assertTrue({"whole", "width", "steps", "step"} <= set(seen), seen)

    def test_starts_need_not_be_points(self):
        random = Random(108)
        for name, (system, course) in KNOWN.items():
            for kind in ("box", "set"):
                told = check_told(self, system, STARTS[name], ONE // 2 + 7, plain_settings(kind, 4))
                self.assertEqual(told[0], "whole")
                time = end_time(told[1])
                for point in starts(STARTS[name], random, 2):
                    self.assertTrue(lies_in(course(point, Fraction(time, ONE)), box_at(told[1], time)))

    def test_turning_goes_far(self):
        told = check_told(self, TURNS, ((ONE, ONE + ONE // 10), (0, ONE // 10)), 15 * ONE, plain_settings("set", 8))
        self.assertEqual(told[0], "whole")
        self.assertTrue(all(high - low < ONE // 6 for low, high in box_come_to(told[1])))
        told = check_told(self, FALLS, ((ONE, 2 * ONE),), 15 * ONE, plain_settings("set", 6))
        self.assertEqual(told[0], "whole")
        self.assertTrue(all(high - low < ONE // 1000 for low, high in box_come_to(told[1])))


class TestRunner(unittest.TestCase):
    def test_errors(self):
        good = [TURNS, ((0, 5), (7, 9)), settings()]
        for place, error, wrongs in [(0, InvalidSystem, SYSTEMS), (1, InvalidBox, BOX[1]), (2, InvalidSettings, SETTINGS)]:
            for wrong in wrongs:
                values = with_part(tuple(good), place, wrong)
                told = caught(error, Runner, *values)
                self.assertTrue(told.value is wrong or told.value == wrong)
        self.assertEqual(caught(InvalidSystem, Runner, None, None, None).value, None)
        self.assertEqual(caught(InvalidBox, Runner, TURNS, None, None).value, None)
        named = Runner(system=CLOCK, box=ZERO, settings=settings())
        self.assertEqual(named.told(), ("run", CLOCK, ZERO, ()))

    def test_begun(self):
        going = Runner(CLOCK, ZERO, settings())
        self.assertEqual([going.time, going.papers(), going.box(), going.told()], [0, [], ZERO, ("run", CLOCK, ZERO, ())])
        self.assertEqual([going.go(0), going.back_to(0), going.time], ["whole", 0, 0])

    def test_go(self):
        going = Runner(CLOCK, ZERO, settings())
        self.assertEqual([going.go(3 * ONE), going.time, len(going.papers())], ["whole", 3 * ONE, 3])
        self.assertEqual(going.box(), ((3 * ONE, 3 * ONE),))
        self.assertEqual(going.told(), run(CLOCK, ZERO, 3 * ONE, settings())[1])
        self.assertEqual([going.go(time=3 * ONE + 5), going.time], ["whole", 3 * ONE + 5])
        before = going.told()
        for wrong in counts_wrong(3 * ONE + 5, 480 * ONE) + [0, 3 * ONE + 4]:
            told = caught(InvalidTime, going.go, wrong)
            self.assertTrue(told.value is wrong or told.value == wrong)
        self.assertEqual(going.told(), before)
        self.assertEqual(going.go(480 * ONE), "steps")
        self.assertEqual(len(going.papers()), 60)
        self.assertIs(is_beginning(before, going.told()), True)
        self.assertEqual([going.go(480 * ONE), going.step()], ["steps", "steps"])

    def test_step(self):
        going = Runner(CLOCK, ZERO, settings(first=2 * ONE, least=5, most=2))
        self.assertIsNone(going.step())
        # Not bounded by a time: between the least and the first one.
        self.assertTrue(5 <= going.time <= 2 * ONE)
        self.assertIsNone(going.step())
        before = going.told()
        self.assertEqual(going.step(), "steps")
        self.assertEqual(going.told(), before)
        for own, word in [(Runner(CLOCK, ((0, 100 * ONE),), settings()), "width"), (Runner(BURSTS, UNIT, settings()), "step"),
                          (Runner(CLOCK, ZERO, settings(room=0)), "step"), (Runner(BURSTS, ((2 ** 54, 2 ** 54),), settings(least=1)), "grains")]:
            before = own.told()
            self.assertEqual(own.step(), word)
            self.assertEqual(own.told(), before)
            check_word(self, before, own._settings, word, own._settings[3])

    def test_back_to(self):
        going = Runner(CLOCK, ZERO, settings())
        going.go(3 * ONE)
        whole = going.told()
        self.assertEqual([going.back_to(480 * ONE), going.told()], [3 * ONE, whole])
        self.assertEqual([going.back_to(3 * ONE), going.back_to(3 * ONE - 1), going.time], [3 * ONE, 2 * ONE, 2 * ONE])
        self.assertIs(is_beginning(going.told(), whole), True)
        self.assertEqual([going.back_to(ONE), going.go(3 * ONE), going.told()], [ONE, "whole", whole])
        for wrong in counts_wrong(0, 480 * ONE):
            self.assertTrue(caught(InvalidTime, going.back_to, wrong).value in (wrong,))
        self.assertEqual(going.told(), whole)
        self.assertEqual([going.back_to(time=0), going.papers(), going.box()], [0, [], ZERO])

    def test_spent_going_keeps_what_it_has(self):
        going = Runner(BURSTS, UNIT, settings(first=ONE // 4, least=ONE // 8))
        self.assertEqual(going.go(2 * ONE), "step")
        self.assertEqual(("spent", going.told(), "step"), run(BURSTS, UNIT, 2 * ONE, settings(first=ONE // 4, least=ONE // 8)))

    def test_both_kinds(self):
        for kind in ("box", "set"):
            going = Runner(TURNS, ((ONE, ONE + 9), (0, 9)), plain_settings(kind, 6))
            for _ in range(4):
                self.assertIsNone(going.step())
            self.assertIs(is_run(going.told()), True)
            self.assertEqual(run_kinds(going.told()), [kind])
            self.assertEqual(going.box(), box_at(going.told(), going.time))
            self.assertEqual(going.time, begins(going.told())[-1])

    def test_twins_and_lists(self):
        going = Runner(CLOCK, ZERO, settings())
        going.go(2 * ONE)
        other = going.twin()
        self.assertEqual(other.told(), going.told())
        other.go(5 * ONE)
        self.assertEqual([going.time, other.time], [2 * ONE, 5 * ONE])
        going.back_to(0)
        self.assertEqual(other.time, 5 * ONE)
        papers = other.papers()
        papers.clear()
        self.assertEqual(len(other.papers()), 5)

    def test_only_itself_is_changed(self):
        system, box, own = CLOCK, ZERO, settings()
        going = Runner(system, box, own)
        told = going.told()
        going.go(ONE)
        self.assertEqual((told, system, box, own), (("run", CLOCK, ZERO, ()), CLOCK, ZERO, settings()))
