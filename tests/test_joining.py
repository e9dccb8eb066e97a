"""[151], [152]: systems side by side, parts that stand alone, and their step papers."""

import unittest
from fractions import Fraction
from random import Random

from tests.courses import BOXES as STARTS, CLOCK, FALLS, KNOWN, RATED, STILL, THROWN, TURNS, lies_in, starts
from tests.reference import some_interval, some_poly, value
from tests.support import ONE, OTHERS, SYSTEM, check_calls, refuses, too_many, with_part
from tests.test_runs import TURNED
from truecourse.errors import InvalidPaper, InvalidPositions, NotAlone, SameName
from truecourse.joining import joined, joined_step, part, part_step
from truecourse.polys import is_system
from truecourse.steps import is_step, step_paper

FALL = FALLS
GROW = ("system", ("y", "t"), ((((1, 1), (1, 1)),), (((0, 0), (1, 1)),)))
NEAR, FAR = ("step", ((0, 1),), 5, 2, ((0, 2),), ((0, 1),)), ("step", ((3, 3),), 5, 2, ((3, 4),), ((3, 4),))
PAIR = ("step", ((0, 1), (3, 3)), 5, 2, ((0, 2), (3, 4)), ((0, 1), (3, 4)))
WIDE = ("step", ((0, 1),) * 5, 5, 2, ((0, 2),) * 5, ((0, 1),) * 5)
PAPERS = (InvalidPaper, OTHERS + [3, "step", (), list(NEAR), NEAR[:5], NEAR + (1,), TURNED[3][0]] + [
    with_part(NEAR, place, wrong) for place, wrongs in [
        (0, ["Step", None, "carried"]), (1, [None, ((0, 1),) * 2, (), [(0, 1)], ((1, 0),), ((0, True),), ((0, 1),) * 9]),
        (2, [0, -1, 8 * ONE + 1, True, None, "5"]), (3, [0, 9, True, None]), (4, [None, ((0, 1),) * 2, ()]), (5, [None, ((0, 1),) * 2, ()])]
    for wrong in wrongs])
POSITIONS = (InvalidPositions, OTHERS + [3, "0", (), [], [1, 0], [0, 0], [2], [-1], [0, 2], [True], [False], [None], ["0"], [[0]], ((0,),), [0, True]])


def renamed(own, names):
    return ("system", tuple(names), own[2])


class TestJoined(unittest.TestCase):
    def test_errors(self):
        check_calls(self, joined, [("system", FALL, SYSTEM), ("other", GROW, SYSTEM)])
        for own, other, name in [(FALLS, FALLS, "x"), (TURNS, renamed(TURNS, "zy"), "y"), (TURNS, renamed(TURNS, "yx"), "x"), (THROWN, renamed(THROWN, "gvh"), "h")]:
            refuses(joined, SameName, {"name": name}, own, other)
        # 8 letters together, and one more; a common name comes first.
        three, four, five = (("system", tuple("abcde")[:many], ((),) * many) for many in (3, 4, 5))
        others = ("system", tuple("stuv"), ((),) * 4)
        self.assertEqual(len(joined(four, others)[1]), 8)
        too_many(joined, "letters", 8, five, others)
        too_many(joined, "letters", 8, others, five)
        refuses(joined, SameName, {"name": "a"}, five, four)
        self.assertEqual(len(joined(three, others)[2]), 7)

    def test_polys(self):
        both = joined(FALL, GROW)
        self.assertEqual(both, ("system", ("x", "y", "t"), (
            (((1, 0, 0), (-1, 1)),), (((0, 1, 1), (1, 1)),), (((0, 0, 0), (1, 1)),))))
        random = Random(151)
        for _ in range(30):
            one = ("system", ("a", "b"), tuple(some_poly(random, 2, 4, 3) for _ in range(2)))
            other = ("system", ("c", "d", "e"), tuple(some_poly(random, 3, 4, 3) for _ in range(3)))
            told = joined(one, other)
            self.assertIs(is_system(told), True)
            self.assertEqual(told[1], tuple("abcde"))
            point = [Fraction(random.randint(-9, 9), 4) for _ in range(5)]
            self.assertEqual([value(poly, point) for poly in told[2]],
                             [value(poly, point[:2]) for poly in one[2]] + [value(poly, point[2:]) for poly in other[2]])
            self.assertEqual([part(told, [0, 1]), part(told, [2, 3, 4])], [one, other])

    def test_steps(self):
        check_calls(self, joined_step, [("paper", NEAR, PAPERS), ("other", FAR, PAPERS)])
        self.assertEqual(joined_step(NEAR, FAR), PAIR)
        self.assertEqual(joined_step(PAIR, NEAR)[1], ((0, 1), (3, 3), (0, 1)))
        for place, wrong in [(2, 6), (3, 3)]:
            self.assertIsNone(joined_step(NEAR, with_part(FAR, place, wrong)))
            # Ahead of TooMany.
            self.assertIsNone(joined_step(WIDE, with_part(WIDE, place, wrong)))
        too_many(joined_step, "letters", 8, WIDE, WIDE)
        self.assertEqual(len(joined_step(WIDE, part_step(WIDE, [0, 1, 2]))[1]), 8)
        too_many(joined_step, "letters", 8, WIDE, part_step(WIDE, [0, 1, 2, 3]))

    def test_facts(self):
        """[151], [152]: papers joined, and cut down, are taken; courses are pairs of courses."""
        random = Random(152)
        for first, second in [("falls", "turns"), ("turns", "rated"), ("clock", "fades"), ("bursts", "spreads")]:
            (one, course), (two, run) = KNOWN[first], KNOWN[second]
            other = renamed(two, ["u", "v", "w"][:len(two[1])])
            own = joined(one, other)
            step, many = ONE // 8, random.randint(1, 6)
            papers = [step_paper(one, STARTS[first], step, many, 20), step_paper(other, STARTS[second], step, many, 20)]
            both = joined_step(*papers)
            self.assertIs(is_step(own, both), True)
            letters = len(one[1])
            rest = list(range(letters, len(own[1])))
            self.assertEqual([part_step(both, list(range(letters))), part_step(both, rest)], papers)
            # A paper of both, found at once, is one of each when cut down.
            whole = step_paper(own, STARTS[first] + STARTS[second], step, many, 20)
            self.assertIs(is_step(own, whole), True)
            self.assertIs(is_step(one, part_step(whole, list(range(letters)))), True)
            self.assertIs(is_step(other, part_step(whole, tuple(rest))), True)
            for point in starts(STARTS[first] + STARTS[second], random, 3):
                row = course(point[:letters], Fraction(1, 8)) + run(point[letters:], Fraction(1, 8))
                self.assertTrue(lies_in(row, both[5]))
                self.assertTrue(lies_in(row, whole[5]))
            narrow = with_part(both, 5, tuple((low + 1, low + 1) if k == 0 else (low, high) for k, (low, high) in enumerate(both[5])))
            self.assertEqual(is_step(own, narrow), is_step(one, part_step(narrow, list(range(letters)))))


class TestParts(unittest.TestCase):
    def test_errors(self):
        check_calls(self, part, [("system", joined(FALL, CLOCK), SYSTEM), ("positions", [0], POSITIONS)])
        check_calls(self, part_step, [("paper", PAIR, PAPERS), ("positions", [1], POSITIONS)])

    def test_alone(self):
        own = ("system", tuple("abcd"), tuple(tuple(sorted(poly)) for poly in (
            [((0, 0, 0, 0), (1, 1))], [((1, 1, 0, 0), (1, 1))], [((0, 0, 1, 1), (1, 1)), ((0, 0, 0, 0), (2, 1))], [((0, 0, 0, 8), (1, 2))])))
        for positions, wrong in [([0], None), ([1], 1), ([0, 1], None), ([2], 2), ([2, 3], None), ([3], None), ([0, 3], None), ([0, 2], 2),
                                 ([1, 2], 1), ([1, 2, 3], 1), ([0, 1, 2], 2), ([0, 1, 2, 3], None), ((0, 1), None)]:
            if wrong is None:
                told = part(own, positions)
                self.assertIs(is_system(told), True)
                self.assertEqual(told[1], tuple("abcd"[k] for k in positions))
                point = [Fraction(2), Fraction(3), Fraction(5), Fraction(7, 2)]
                self.assertEqual([value(poly, [point[k] for k in positions]) for poly in told[2]], [value(own[2][k], point) for k in positions])
            else:
                refuses(part, NotAlone, {"position": wrong}, own, positions)
        self.assertEqual(part(own, [0, 1, 2, 3]), own)

    def test_parts(self):
        self.assertEqual(part(RATED, [0]), ("system", ("a",), ((),)))
        refuses(part, NotAlone, {"position": 1}, RATED, [1])
        self.assertEqual(part(THROWN, [1, 2])[1], ("v", "g"))
        self.assertEqual(part(STILL, [0]), STILL)
        self.assertEqual(part_step(PAIR, [0, 1]), PAIR)
        self.assertEqual(part_step(PAIR, (1,)), FAR)
        random = Random(153)
        for _ in range(20):
            boxes = [tuple(some_interval(random, 99) for _ in range(4)) for _ in range(3)]
            paper = ("step", boxes[0], 7, 3, boxes[1], boxes[2])
            positions = sorted(random.sample(range(4), random.randint(1, 4)))
            self.assertEqual(part_step(paper, positions), ("step",) + tuple(
                own if place in (1, 2) else tuple(own[k] for k in positions) for place, own in [(0, boxes[0]), (1, 7), (2, 3), (3, boxes[1]), (4, boxes[2])]))
