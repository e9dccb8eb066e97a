"""[131]: machines."""

import unittest

from tests.courses import CLOCK, FALLS, GROWS, STILL, TURNS, system
from tests.support import ONE, OTHERS, POLYS, SYSTEMS, check_calls, counts_wrong, refuses, with_part
from truecourse.errors import InvalidMachine, InvalidMode
from truecourse.machines import is_machine, ways_from
from truecourse.polytexts import parse_poly

LETTER = (((1,), (1, 1)),)
DOWN = system("x", [((0,), (-1, 1))])
UP = system("x", [((0,), (1, 1))])
WAY = (0, LETTER, "down", 1, (LETTER,))
TURNING = ("machine", (DOWN, UP), (WAY,))


def poly(text, *names):
    return parse_poly(text, list(names))


def told(names, *texts):
    return ("system", tuple(names), tuple(parse_poly(text, list(names)) for text in texts))


# x heats up to 3/2, cools down to 1, and so on.
THERMOSTAT = ("machine", (told("x", "2 - x"), told("x", "-x")), (
    (0, poly("x - 3/2", "x"), "up", 1, (LETTER,)), (1, poly("x - 1", "x"), "down", 0, (LETTER,))))
# A ball falls, and comes up again, somewhat slower.
BALL = ("machine", (told("hv", "v", "-10"),), ((0, poly("h", "h", "v"), "down", 0, ((), poly("-4/5*v", "h", "v"))),))
# Modes with unlike numbers of letters.
MIXED = ("machine", (CLOCK, TURNS, STILL), (
    (0, poly("t - 1", "t"), "up", 1, (poly("1", "t"), poly("t - 1", "t"))), (1, poly("y - 1", "x", "y"), "up", 2, (poly("x + y", "x", "y"),)),
    (1, poly("x", "x", "y"), "down", 1, (poly("-x", "x", "y"), poly("y", "x", "y")))))

MACHINES = (InvalidMachine, OTHERS + [3, "machine", (), list(TURNING), TURNING[:2], TURNING + (1,), (TURNING,)] + [
    with_part(TURNING, place, part) for place, parts in [
        (0, ["Machine", None, True, ("machine",)]),
        (1, [None, (), [DOWN, UP], (DOWN,), (DOWN, TURNS), (DOWN, None), DOWN, (UP,) * 7] + [(own, UP) for own in SYSTEMS]),
        (2, [None, [WAY], WAY, (None,), ((),), (list(WAY),), (WAY[:4],), (WAY + (1,),), (WAY,) * 13]),
        (2, [(with_part(WAY, 0, wrong),) for wrong in counts_wrong(0, 1)]), (2, [(with_part(WAY, 3, wrong),) for wrong in counts_wrong(0, 1)]),
        (2, [(with_part(WAY, 1, wrong),) for wrong in POLYS + [(((1, 0), (1, 1)),)]]),
        (2, [(with_part(WAY, 2, wrong),) for wrong in OTHERS + ["Up", "above", "", 3, ("up",)]]),
        (2, [(with_part(WAY, 4, wrong),) for wrong in OTHERS + [[LETTER], (), (LETTER, LETTER), LETTER, (None,), "x", ((((1, 0), (1, 1)),),)]]),
        (2, [(WAY, with_part(WAY, 0, 2))])] for part in parts])
MODE = (InvalidMode, counts_wrong(0, 1))


class TestMachines(unittest.TestCase):
    def test_errors(self):
        check_calls(self, is_machine, [("value", TURNING, (None, []))])
        check_calls(self, ways_from, [("machine", TURNING, MACHINES), ("mode", 1, MODE)])
        refuses(ways_from, InvalidMode, {"value": 3}, MIXED, 3)

    def test_is_machine(self):
        for value in (TURNING, THERMOSTAT, BALL, MIXED, with_part(TURNING, 2, ()), ("machine", (UP,), ()), ("machine", (FALLS, GROWS), (WAY,))):
            self.assertIs(is_machine(value), True, value)
        for value in MACHINES[1]:
            self.assertIs(is_machine(value), False, value)

    def test_numbers(self):
        for many, told_of in [(1, False), (2, True), (6, True), (7, False)]:
            self.assertIs(is_machine(("machine", (DOWN,) * many, (WAY,))), told_of)
        for many, told_of in [(0, True), (1, True), (12, True), (13, False)]:
            self.assertIs(is_machine(with_part(TURNING, 2, (WAY,) * many)), told_of)
        self.assertIs(is_machine(("machine", (), ())), False)

    def test_letters(self):
        # Guard and resets are in the letters of the mode from, one reset for each of the mode to.
        first = MIXED[2][0]
        for way, told_of in [
                (with_part(first, 1, poly("x", "x", "y")), False), (with_part(first, 4, first[4][:1]), False),
                (with_part(first, 4, first[4] * 2), False), (with_part(first, 4, (poly("x", "x", "y"),) * 2), False),
                (with_part(first, 1, ()), True), (with_part(first, 4, ((), ())), True), (with_part(first, 3, 0), False),
                (with_part(first, 3, 0)[:4] + (((),),), True)]:
            self.assertIs(is_machine(with_part(MIXED, 2, (way,))), told_of, way)

    def test_ways_from(self):
        self.assertEqual([ways_from(TURNING, 0), ways_from(TURNING, 1)], [[0], []])
        self.assertEqual([ways_from(MIXED, mode) for mode in range(3)], [[0], [1, 2], []])
        self.assertEqual([ways_from(THERMOSTAT, mode) for mode in range(2)], [[0], [1]])
        self.assertEqual(ways_from(with_part(TURNING, 2, (WAY,) * 12), 0), list(range(12)))
        told_of = ways_from(TURNING, 0)
        told_of.append(ONE)
        self.assertEqual(ways_from(TURNING, 0), [0])
