"""[154], [155]: time that runs otherwise, the time as a letter, parameters left out."""

import unittest
from fractions import Fraction
from random import Random

from tests.courses import BOXES as STARTS, CLOCK, FALLS, GROWS, KNOWN, RATED, SPREADS, STILL, THROWN, TURNS, lies_in, starts
from tests.reference import fraction, some_poly, some_ratio, value
from tests.support import ONE, OTHERS, RATIO, SYSTEM, check_calls, counts_wrong, refuses, too_many
from truecourse.backward import back_system
from truecourse.errors import InvalidName, InvalidPosition, NotStill, SameName
from truecourse.polys import is_system, poly_scaled
from truecourse.polytexts import parse_poly
from truecourse.runners import run as run_to
from truecourse.runs import box_at, end_time
from truecourse.settings import plain_settings
from truecourse.times import parameters_of, time_scaled, with_time, with_value

NAME = (InvalidName, OTHERS + [3, "", "T", "to", "letter", "1t", "t t", "t_", ("t",), ["t"], "t" * 13])


class TestScaled(unittest.TestCase):
    def test_errors(self):
        check_calls(self, time_scaled, [("system", FALLS, SYSTEM), ("ratio", (3, 2), RATIO)])

    def test_polys(self):
        self.assertEqual(time_scaled(FALLS, (-1, 1)), GROWS)
        self.assertEqual(time_scaled(TURNS, (1, 1)), TURNS)
        # With 0 all stands still; below 0 it runs back.
        self.assertEqual(time_scaled(TURNS, (0, 1)), ("system", ("x", "y"), ((), ())))
        self.assertEqual(time_scaled(TURNS, (-1, 1)), back_system(TURNS))
        random = Random(154)
        for _ in range(30):
            own = ("system", ("x", "y"), tuple(some_poly(random, 2, 4, 3) for _ in range(2)))
            one, other = some_ratio(random), some_ratio(random)
            self.assertEqual(time_scaled(own, one), own[:2] + (tuple(poly_scaled(poly, one) for poly in own[2]),))
            both = fraction(one) * fraction(other)
            self.assertEqual(time_scaled(time_scaled(own, one), other), time_scaled(own, (both.numerator, both.denominator)))

    def test_courses(self):
        """A course at the time t is one of the system at the time r t."""
        random = Random(155)
        for name, speed in [("falls", (3, 2)), ("turns", (-2, 1)), ("turns", (1, 2)), ("bursts", (1, 2)), ("rated", (0, 1)), ("spreads", (-1, 2))]:
            own, course = KNOWN[name]
            run = run_to(time_scaled(own, speed), STARTS[name], ONE, plain_settings("set", 6))
            self.assertEqual(run[0], "whole", name)
            for point in starts(STARTS[name], random, 3):
                for time in (ONE, ONE // 3):
                    row = course(point, fraction(speed) * Fraction(time, ONE))
                    self.assertTrue(lies_in(row, box_at(run[1], time)), name)


class TestTime(unittest.TestCase):
    def test_errors(self):
        check_calls(self, with_time, [("system", FALLS, SYSTEM), ("name", "t", NAME)])
        refuses(with_time, SameName, {"name": "x"}, FALLS, "x")
        refuses(with_time, SameName, {"name": "t"}, CLOCK, "t")
        own = ("system", tuple("abcdefgh"), ((),) * 8)
        too_many(with_time, "letters", 8, own, "t")
        refuses(with_time, SameName, {"name": "c"}, own, "c")
        refuses(with_time, InvalidName, {"value": "to"}, own, "to")
        self.assertEqual(len(with_time(("system", tuple("abcdefg"), ((),) * 7), "t")[1]), 8)

    def test_told(self):
        self.assertEqual(with_time(FALLS, "t"), ("system", ("x", "t"), ((((1, 0), (-1, 1)),), (((0, 0), (1, 1)),))))
        random = Random(156)
        for _ in range(20):
            own = ("system", ("x", "y"), tuple(some_poly(random, 2, 4, 3) for _ in range(2)))
            told = with_time(own, "time1")
            self.assertIs(is_system(told), True)
            self.assertEqual(told[1], ("x", "y", "time1"))
            point = [Fraction(random.randint(-9, 9), 2) for _ in range(3)]
            self.assertEqual([value(poly, point) for poly in told[2]], [value(poly, point[:2]) for poly in own[2]] + [1])


class TestParameters(unittest.TestCase):
    def test_errors(self):
        check_calls(self, parameters_of, [("system", RATED, SYSTEM)])
        check_calls(self, with_value, [
            ("system", RATED, SYSTEM), ("position", 0, (InvalidPosition, counts_wrong(0, 1))), ("ratio", (1, 2), RATIO)])
        # Of a system of one letter none may be left out.
        for own in (STILL, FALLS):
            refuses(with_value, InvalidPosition, {"value": 0}, own, 0, (1, 2))
        refuses(with_value, NotStill, {}, RATED, 1, (1, 2))
        refuses(with_value, NotStill, {}, THROWN, 0, (1, 2))

    def test_positions(self):
        self.assertEqual([parameters_of(own) for own in (RATED, THROWN, STILL, FALLS, SPREADS, TURNS, CLOCK)], [[0], [2], [0], [], [0], [], []])
        self.assertEqual(parameters_of(("system", tuple("abc"), ((), (), ()))), [0, 1, 2])

    def test_values(self):
        self.assertEqual(with_value(RATED, 0, (1, 2)), ("system", ("x",), ((((1,), (-1, 2)),),)))
        self.assertEqual(with_value(RATED, 0, (0, 1)), ("system", ("x",), ((),)))
        self.assertEqual(with_value(THROWN, 2, (9, 1)), ("system", ("h", "v"), ((((0, 1), (1, 1)),), (((0, 0), (-9, 1)),))))
        # Like terms are put together, those that come to 0 go.
        names = ["a", "x"]
        own = ("system", ("a", "x"), ((), parse_poly("a*x - 2*x + a^2 + 3 + a^8*1/256", names)))
        self.assertEqual(with_value(own, 0, (2, 1)), ("system", ("x",), (parse_poly("8", ["x"]),)))
        random = Random(157)
        for _ in range(40):
            k = random.randrange(3)
            own = ("system", ("x", "y", "z"), tuple(() if j == k else some_poly(random, 3, 6, 4) for j in range(3)))
            number = some_ratio(random)
            told = with_value(own, k, number)
            self.assertIs(is_system(told), True)
            point = [Fraction(random.randint(-9, 9), 2) for _ in range(3)]
            point[k] = fraction(number)
            rest = [x for j, x in enumerate(point) if j != k]
            self.assertEqual([value(poly, rest) for poly in told[2]], [value(poly, point) for j, poly in enumerate(own[2]) if j != k])

    def test_courses(self):
        """[155]: courses of what is left are those of the system whose parameter is this number."""
        random = Random(158)
        for name, k in [("rated", 0), ("thrown", 2), ("spreads", 0)]:
            own, course = KNOWN[name]
            number = Fraction(random.randint(STARTS[name][k][0], STARTS[name][k][1]), ONE)
            left = with_value(own, k, (number.numerator, number.denominator))
            box = STARTS[name][:k] + STARTS[name][k + 1:]
            run = run_to(left, box, ONE, plain_settings("set", 5))[1]
            self.assertEqual(end_time(run), ONE)
            for point in starts(box, random, 3):
                row = course(point[:k] + (number,) + point[k:], Fraction(1))
                self.assertTrue(lies_in(row[:k] + row[k + 1:], box_at(run, ONE)), name)
