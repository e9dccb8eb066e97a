"""[133] to [135]: signs, free ways, crossings, reset boxes, late boxes."""

import unittest
from fractions import Fraction
from random import Random

from tests import formulas
from tests.courses import BOXES as STARTS, FALLS, GROWS, KNOWN, TURNS, lies_in, starts, system
from tests.reference import poly as poly_of_table, some_interval, some_poly, value
from tests.support import (
    BOXES, MOST, ONE, ORDER, OTHERS, POLYS, STEP, SYSTEM, check_calls, refuses, too_many, with_part)
from tests.test_machines import DOWN, LETTER, UP, poly
from tests.test_runs import TURNED
from truecourse.errors import InvalidBox, InvalidPaper, InvalidPoly, InvalidPolys, InvalidWord, NotHeld
from truecourse.held import held_box
from truecourse.lags import crosses, is_free, late_box, reset_box, sign_there
from truecourse.ranges import best_range
from truecourse.steps import is_step, step_paper
from truecourse.terms import terms_flow

PAPER = ("step", ((ONE, ONE),), 2 * ONE, 1, ((-ONE, ONE),), ((-ONE, -ONE),))
SQUARE = (((2,), (1, 1)),)
TWO = (((1, 0), (1, 1)),)
GUARD = (InvalidPoly, POLYS + [TWO])
BOX = (InvalidBox, BOXES + [((0, 1),) * 2])
WORD = (InvalidWord, OTHERS + ["Up", "above", "", 3, ("up",), ["up"]])
PAPERS = (InvalidPaper, OTHERS + [
    3, "step", (), list(PAPER), PAPER[:5], PAPER + (1,), with_part(PAPER, 0, "carried"), with_part(PAPER, 2, 3 * ONE), with_part(PAPER, 3, True),
    with_part(PAPER, 4, ((0, ONE),)), with_part(PAPER, 5, ((0, ONE),)), with_part(PAPER, 1, ((ONE, ONE),) * 2), TURNED[3][0]])
RESETS = (InvalidPolys, OTHERS + [
    3, "x", (), [LETTER], LETTER, (None,), (LETTER, None), (LETTER, [((1,), (1, 1))]), (TWO,), (LETTER, TWO), (LETTER,) * 9])
FAR = ((0, 2 ** 60),)


def sign(own, box):
    low, high = best_range(own, box)
    return "above" if low > 0 else "below" if high < 0 else None


class TestSigns(unittest.TestCase):
    def test_errors(self):
        check_calls(self, sign_there, [("poly", LETTER, (InvalidPoly, POLYS + [TWO])), ("box", ((1, 5),), (InvalidBox, BOXES))])
        # As many letters as the box has intervals: it is the poly's fault, where a box stands behind it.
        refuses(sign_there, InvalidPoly, {"value": LETTER}, LETTER, ((0, 1), (2, 3)))
        for wrong in BOXES:
            refuses(sign_there, InvalidBox, {"value": wrong}, TWO, wrong)
        too_many(sign_there, "grains", MOST, SQUARE, FAR)
        refuses(sign_there, InvalidPoly, {"value": SQUARE}, SQUARE, FAR * 2)

    def test_signs(self):
        for box, told in [(((1, 5),), "above"), (((0, 5),), None), (((-5, -1),), "below"), (((-5, 0),), None), (((-5, 5),), None), (((0, 0),), None)]:
            self.assertEqual(sign_there(LETTER, box), told)
            self.assertIsNone(sign_there((), box))
        random = Random(133)
        for _ in range(60):
            own, box = some_poly(random, 2, 3, 3), tuple(some_interval(random, 2 * ONE) for _ in range(2))
            self.assertEqual(sign_there(own, box), sign(own, box))


class TestFree(unittest.TestCase):
    def test_errors(self):
        check_calls(self, is_free, [("system", DOWN, SYSTEM), ("guard", LETTER, GUARD), ("word", "up", WORD), ("box", ((-5, 5),), BOX)])
        too_many(is_free, "grains", MOST, DOWN, SQUARE, "up", FAR)
        refuses(is_free, InvalidWord, {"value": None}, DOWN, SQUARE, None, FAR)

    def test_by_guard_and_slope(self):
        across, above, below = ((-5, 5),), ((1, 5),), ((-5, -1),)
        for own, box, up, down in [
                # By the guard for both words; by the slope for one; by neither.
                (DOWN, above, True, True), (DOWN, below, True, True), (DOWN, across, True, False), (UP, across, False, True),
                (UP, above, True, True), (system("x", []), across, False, False), (system("x", []), above, True, True),
                (FALLS, ((0, 5),), False, False), (GROWS, ((0, 0),), False, False)]:
            self.assertEqual([is_free(own, LETTER, word, box) for word in ("up", "down")], [up, down], (own, box))
        self.assertIs(is_free(UP, (), "up", across), False)

    def test_all_degrees_and_terms(self):
        # The slope has a degree of 15: that doesn't matter here.
        own = system("x", [((8,), (1, 1))])
        guard = poly("x^8 - 1", "x")
        near = ((ONE - 9, ONE + 9),)
        self.assertEqual([is_free(own, guard, word, near) for word in ("up", "down")], [False, True])
        self.assertEqual(sum(terms_flow(own[2], guard)[0][0]), 15)
        # More than 60 terms.
        first = {(i, j): Fraction(1) for i in range(9) for j in range(9 - i)}
        second = {(i, j): Fraction(1) for i in range(6) for j in range(6 - i)}
        wide = ("system", ("x", "y"), (poly_of_table(first), ()))
        guard = poly_of_table({**second, (0, 0): Fraction(-20)})
        self.assertGreater(len(terms_flow(wide[2], guard)), 60)
        box = ((ONE, ONE + ONE // 99), (ONE - 9, ONE))
        self.assertEqual([is_free(wide, guard, word, box) for word in ("up", "down")], [False, True])

    def test_against_the_words(self):
        random = Random(134)
        told = []
        for _ in range(120):
            own = ("system", ("x", "y"), tuple(some_poly(random, 2, 2, 2) for _ in range(2)))
            guard, word = some_poly(random, 2, 2, 2), random.choice(["up", "down"])
            box = tuple(some_interval(random, ONE) for _ in range(2))
            slope = terms_flow(own[2], guard)
            wanted = sign(guard, box) is not None or sign(slope, box) == {"up": "below", "down": "above"}[word]
            told.append(is_free(own, guard, word, box))
            self.assertIs(told[-1], wanted)
        self.assertTrue(any(told) and not all(told))


class TestCrosses(unittest.TestCase):
    def test_errors(self):
        check_calls(self, crosses, [("system", DOWN, SYSTEM), ("paper", PAPER, PAPERS), ("guard", LETTER, GUARD)])

    def test_words(self):
        for guard, told in [("x", "down"), ("-x", "up"), ("x - 1", None), ("x + 1", None), ("x - 2", None), ("0", None), ("x^2", None),
                            ("x^3 + x", "down"), ("x + 999/1000", "down"), ("999/1000 - x", "up"), ("x^3", None), ("7", None)]:
            self.assertEqual(crosses(DOWN, PAPER, poly(guard, "x")), told, guard)
        rising = ("step", ((-ONE, -ONE),), 2 * ONE, 1, ((-ONE, ONE),), ((ONE, ONE),))
        for guard, told in [("x", "up"), ("x^3", None), ("x^3 + x", "up"), ("-x^3", None), ("-x", "down"), ("x + 1", None)]:
            self.assertEqual(crosses(UP, rising, poly(guard, "x")), told, guard)
        # Begin and end must not touch, nor must the slope.
        self.assertIsNone(crosses(DOWN, with_part(PAPER, 5, ((-ONE, 0),)), LETTER))
        self.assertEqual(crosses(DOWN, with_part(PAPER, 5, ((-ONE, -1),)), LETTER), "down")
        slow = system("x", [((1,), (-1, 1)), ((0,), (-1, 1))])
        self.assertIsNone(crosses(slow, step_paper(slow, ((-ONE, -ONE),), ONE // 8, 3, 9), poly("x + 1", "x")))

    def test_grains(self):
        far = ("step", ((0, 0),), ONE, 1, ((0, 2 ** 60),), ((0, ONE),))
        still = system("x", [])
        self.assertIs(is_step(still, far), True)
        wide = with_part(with_part(far, 5, ((0, 2 ** 60),)), 1, ((0, 2 ** 60),))
        too_many(crosses, "grains", MOST, still, wide, SQUARE)
        refuses(crosses, InvalidPoly, {"value": TWO}, still, wide, TWO)

    def test_facts(self):
        """[134]: each course from the first box crosses just once, within the step."""
        random = Random(135)
        seen = {}
        for name, (own, course) in KNOWN.items():
            for _ in range(12):
                step = random.choice([ONE // 4, ONE // 3, ONE // 16])
                paper = step_paper(own, STARTS[name], step, random.randint(2, 6), 20)
                if paper is None:
                    continue
                letters = len(own[1])
                k, way = random.randrange(letters), random.choice([1, -1])
                at = (sum(STARTS[name][k]) + sum(paper[5][k])) // 4
                guard = poly_of_table({tuple(int(j == k) for j in range(letters)): Fraction(way), (0,) * letters: Fraction(-way * at, ONE)})
                told = crosses(own, paper, guard)
                seen[told] = True
                if told is not None:
                    for point in starts(STARTS[name], random, 3):
                        signs = [value(guard, course(point, Fraction(j * step, 9 * ONE))) > 0 for j in range(10)]
                        self.assertEqual((signs[0], signs[-1]), (told == "down", told == "up"))
                        self.assertEqual(sum(a != b for a, b in zip(signs, signs[1:])), 1)
        self.assertEqual(len(seen), 3)


class TestResets(unittest.TestCase):
    def test_errors(self):
        check_calls(self, reset_box, [("resets", (LETTER,), RESETS), ("box", ((-ONE, ONE),), (InvalidBox, BOXES))])
        # Of a box that is none any one number of letters may be.
        for resets in ((TWO,), (LETTER, ()), ((), ()), (TWO, TWO, ())):
            refuses(reset_box, InvalidBox, {"value": None}, resets, None)
        for resets in ((TWO, LETTER), ((), TWO, LETTER), (), [TWO], (None,), (LETTER,) * 9):
            refuses(reset_box, InvalidPolys, {"value": resets}, resets, None)
        refuses(reset_box, InvalidPolys, {"value": (LETTER,)}, (LETTER,), ((0, 1), (2, 3)))
        too_many(reset_box, "grains", MOST, (SQUARE,), FAR)
        refuses(reset_box, InvalidPolys, {"value": (SQUARE, TWO)}, (SQUARE, TWO), FAR)

    def test_ranges(self):
        box = ((-ONE, 2 * ONE), (ONE, 3 * ONE))
        resets = tuple(poly(text, "x", "y") for text in ("y", "x", "x*y - 1", "0", "7", "x^2", "x - x*y", "1/3*x"))
        self.assertEqual(reset_box(resets, box), tuple(best_range(own, box) for own in resets))
        self.assertEqual(reset_box((LETTER,), ((-ONE, ONE),)), ((-ONE, ONE),))
        self.assertEqual(reset_box(((),), ((0, 1),) * 8), ((0, 0),))
        random = Random(136)
        for _ in range(30):
            resets = tuple(some_poly(random, 2, 3, 3) for _ in range(random.randint(1, 8)))
            box = tuple(some_interval(random, 2 * ONE) for _ in range(2))
            told = reset_box(resets, box)
            for point in starts(box, random, 3):
                self.assertTrue(lies_in([value(own, point) for own in resets], told))


class TestLate(unittest.TestCase):
    def test_errors(self):
        box, held = ((-ONE, ONE),), ((-ONE, 3 * ONE),)
        check_calls(self, late_box, [
            ("system", UP, SYSTEM), ("box", box, BOX), ("step", 2 * ONE, STEP), ("many", 1, ORDER), ("held", held, BOX)])
        refuses(late_box, NotHeld, {}, UP, box, 2 * ONE, 1, ((-ONE, 3 * ONE - 1),))
        refuses(late_box, NotHeld, {}, UP, box, 2 * ONE, 1, ((1 - ONE, 3 * ONE),))
        # Also where more than 2 ** 70 grains would be needed to tell whether it does.
        burst = system("x", [((2,), (1, 1))])
        refuses(late_box, NotHeld, {}, burst, ((0, 0),), ONE, 1, ((0, 2 ** 60),))

    def test_beyond(self):
        """Held by a box on which higher coefficients go beyond: NotHeld isn't so, TooMany is."""
        # x' = - 2 ** 20 x, near 0: coefficient n is 2 ** (20 n) times as large, but for n!.
        steep = system("x", [((1,), (-2 ** 20, 1))])
        box, held = ((0, 2 ** 29),), ((-2 ** 30, 2 ** 30),)
        step = 2 ** 19
        self.assertEqual(formulas.holds(steep[2], box, step, held), True)
        self.assertEqual(late_box(steep, box, step, 1, held), formulas.during(steep[2], box, 0, step, 1, held))
        too_many(late_box, "grains", MOST, steep, box, step, 4, held)
        refuses(late_box, NotHeld, {}, steep, box, 2 ** 22, 4, held)

    def test_by_the_formula(self):
        random = Random(137)
        self.assertEqual(late_box(UP, ((-ONE, ONE),), 2 * ONE, 1, ((-ONE, 3 * ONE),)), ((-ONE, 3 * ONE),))
        for name, (own, course) in KNOWN.items():
            for many in (1, 3, 6):
                step = random.choice([ONE // 4, ONE // 16])
                held = held_box(own, STARTS[name], step, 20)
                if held is None:
                    continue
                told = late_box(own, STARTS[name], step, many, held)
                self.assertEqual(told, formulas.during(own[2], STARTS[name], 0, step, many, held))
                for point in starts(STARTS[name], random, 2):
                    for k in range(5):
                        self.assertTrue(lies_in(course(point, Fraction(k * step, 4 * ONE)), told))
        self.assertEqual(late_box(TURNS, ((0, 0), (0, 0)), ONE, 3, ((0, 0), (0, 0))), ((0, 0), (0, 0)))
