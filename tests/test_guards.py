"""[121], [122]: guards, signs and words."""

import unittest
from fractions import Fraction
from itertools import product
from random import Random

from tests.courses import BOXES as STARTS, CLOCK, FALLS, GROWS, KNOWN, TURNS, starts, system
from tests.reference import poly as poly_of_table, some_interval, some_poly, value
from tests.support import BOXES, MOST, ONE, OTHERS, POLY, POLYS, SYSTEM, check_calls, refuses, too_many, with_part
from tests.test_carried import PAPERS as CARRIED_PAPERS
from tests.test_runs import TURNED
from truecourse.boxes import box_hull
from truecourse.carried import is_carried
from truecourse.choosing import carried
from truecourse.errors import InvalidBox, InvalidPaper, InvalidPoly, TooMany
from truecourse.guards import is_guard, once, sign_of, word_for
from truecourse.polys import flow_slope
from truecourse.polytexts import parse_poly
from truecourse.ranges import best_range
from truecourse.sets import set_hull, set_of_box
from truecourse.steps import is_step, step_paper

OVER = (((0,), (-1, 1)), ((1,), (1, 1)))
SQUARE = (((2,), (1, 1)),)
NEAR, FAR, ALL = ((-ONE, -ONE // 2),), ((3 * ONE, 7 * ONE // 2),), ((-ONE, 7 * ONE // 2),)
GUARD = (InvalidPoly, POLYS + [(((1, 0), (1, 1)),)])
LIKE = (InvalidBox, BOXES + [((0, 1),) * 2])
PAPER = ("step", NEAR, 4 * ONE, 1, ALL, FAR)
PAPERS = OTHERS + [
    3, "step", (), list(PAPER), PAPER[:5], PAPER + (1,), with_part(PAPER, 0, "carried"), with_part(PAPER, 2, 5 * ONE),
    with_part(PAPER, 4, NEAR), with_part(PAPER, 5, NEAR), with_part(PAPER, 3, 0), with_part(PAPER, 3, True), TURNED[3][0]]


def sign(poly, box):
    try:
        low, high = best_range(poly, box)
    except TooMany:
        return None
    return "above" if low > 0 else "below" if high < 0 else None


def word(own, guard, begin, held, last):
    """By the very list of the document."""
    try:
        s = sign(flow_slope(own, guard), held)
    except TooMany:
        s = None
    x, y, b = sign(guard, begin), sign(guard, last), sign(guard, held)
    if b == "above" or (s == "above" and x == "above") or (s == "below" and y == "above"):
        return ("never", "above")
    if b == "below" or (s == "below" and x == "below") or (s == "above" and y == "below"):
        return ("never", "below")
    if s == "above" and x == "below" and y == "above":
        return ("once", "up")
    if s == "below" and x == "above" and y == "below":
        return ("once", "down")
    return ("perhaps",)


class TestGuards(unittest.TestCase):
    def test_errors(self):
        check_calls(self, is_guard, [("system", CLOCK, SYSTEM), ("value", OVER, (None, []))])
        check_calls(self, sign_of, [("poly", OVER, POLY), ("box", NEAR, (InvalidBox, BOXES + [((0, 1),) * 2]))])
        check_calls(self, word_for, [
            ("system", CLOCK, SYSTEM), ("guard", OVER, GUARD), ("begin", NEAR, LIKE), ("held", ALL, LIKE), ("last", FAR, LIKE)])
        check_calls(self, once, [("system", CLOCK, SYSTEM), ("paper", PAPER, (InvalidPaper, PAPERS)), ("guard", OVER, GUARD)])

    def test_is_guard(self):
        for poly, told in [(OVER, True), ((), True), ((((0, 1), (1, 1)),), False), ("x", False), ([OVER[0]], False)]:
            self.assertIs(is_guard(CLOCK, poly), told)
        for poly in POLYS:
            self.assertIs(is_guard(CLOCK, poly), False, poly)
        self.assertIs(is_guard(TURNS, (((0, 1), (1, 1)),)), True)

    def test_signs(self):
        for box, told in [(((-5, ONE - 1),), "below"), (((-5, ONE),), None), (((ONE, ONE + 5),), None), (((ONE + 1, ONE + 5),), "above"),
                          (((ONE, ONE),), None)]:
            self.assertEqual(sign_of(OVER, box), told, box)
        self.assertIsNone(sign_of((), NEAR))
        # Refused by a limit there is none, and nothing is raised.
        self.assertIsNone(sign_of(SQUARE, ((2 ** 60, 2 ** 61),)))
        self.assertEqual(sign_of(SQUARE, ((2 ** 50, 2 ** 51),)), "above")
        random = Random(121)
        for _ in range(80):
            poly, box = some_poly(random, 2, 3, 3), tuple(some_interval(random, 2 * ONE) for _ in range(2))
            self.assertEqual(sign_of(poly, box), sign(poly, box))


class TestWords(unittest.TestCase):
    def test_each_word(self):
        below, above, wide = ((-9, -3),), ((3, 9),), ((-9, 9),)
        line = (((1,), (1, 1)),)
        down = system("x", [((0,), (-1, 1))])
        still = system("x", [])
        for own, begin, held, last, told in [
                (still, wide, above, wide, ("never", "above")), (CLOCK, above, wide, wide, ("never", "above")),
                (down, wide, wide, above, ("never", "above")), (still, wide, below, wide, ("never", "below")),
                (down, below, wide, wide, ("never", "below")), (CLOCK, wide, wide, below, ("never", "below")),
                (CLOCK, below, wide, above, ("once", "up")), (down, above, wide, below, ("once", "down")),
                (CLOCK, below, wide, wide, ("perhaps",)), (CLOCK, wide, wide, above, ("perhaps",)), (still, below, wide, above, ("perhaps",)),
                (down, above, wide, wide, ("perhaps",)), (still, above, wide, above, ("perhaps",)),
                # Where several are so the first one is told, though such boxes do not belong together.
                (CLOCK, above, below, below, ("never", "above")), (down, above, below, above, ("never", "above")),
                (down, below, above, below, ("never", "above")), (CLOCK, above, wide, below, ("never", "above")),
                (down, below, wide, above, ("never", "above")), (CLOCK, below, below, above, ("never", "below")),
                (down, above, above, below, ("never", "above"))]:
            self.assertEqual(word_for(own, line, begin, held, last), told, (own, begin, held, last))

    def test_against_the_list(self):
        random = Random(122)
        seen = {}
        boxes = [((-9, -3),), ((3, 9),), ((-9, 9),), ((0, 4),), ((-4, 0),), ((0, 0),)]
        for own in (CLOCK, FALLS, GROWS, system("x", [((0,), (-1, 1))]), system("x", [])):
            for guard in ((((1,), (1, 1)),), (((1,), (-1, 1)),), SQUARE, ()):
                for begin, held, last in product(boxes, repeat=3):
                    told = word_for(own, guard, begin, held, last)
                    self.assertEqual(told, word(own, guard, begin, held, last))
                    seen[told] = True
        self.assertEqual(len(seen), 5)
        for _ in range(100):
            own = ("system", ("x", "y"), tuple(some_poly(random, 2, 2, 2) for _ in range(2)))
            guard = some_poly(random, 2, 3, 2)
            three = [tuple(some_interval(random, 2 * ONE) for _ in range(2)) for _ in range(3)]
            self.assertEqual(word_for(own, guard, *three), word(own, guard, *three))

    def test_slopes_that_are_refused(self):
        # The slope along the flow has a degree of 9: there is no sign then.
        own = system("x", [((8,), (1, 1))])
        near, far, both = ((ONE, ONE),), ((3 * ONE, 3 * ONE),), ((ONE, 3 * ONE),)
        guard = (((0,), (-4, 1)), ((2,), (1, 1)))
        self.assertEqual(word_for(own, guard, near, both, far), ("perhaps",))
        line = (((0,), (-2, 1)), ((1,), (1, 1)))
        self.assertEqual(word_for(own, line, near, both, far), ("once", "up"))
        # More than 60 terms, likewise.
        exponents = [(i, j) for i in range(8) for j in range(8 - i)][:30]
        many = ("system", ("x", "y"), (tuple((e, (1, 1)) for e in sorted(exponents)), (((0, 0), (1, 1)),)))
        wide = tuple(sorted(((j, i) for i in range(6) for j in range(6 - i) if i + j > 0)))
        guard = tuple((e, (1, 1)) for e in wide)
        try:
            flow_slope(many, guard)
            refused = False
        except TooMany:
            refused = True
        self.assertTrue(refused)
        box = ((ONE, ONE), (ONE, ONE))
        shifted = (((0, 0), (-22, 1)),) + guard
        self.assertEqual(word_for(many, shifted, box, ((-ONE, 3 * ONE),) * 2, ((2 * ONE, 2 * ONE),) * 2), ("perhaps",))
        # A range beyond 2 ** 70 grains is no sign, and not refused.
        far_off = ((2 ** 60, 2 ** 61),)
        self.assertEqual(word_for(CLOCK, SQUARE, far_off, far_off, far_off), ("perhaps",))

    def test_ends(self):
        # 0 is neither above nor below.
        self.assertEqual(word_for(CLOCK, OVER, ((0, ONE),), ALL, FAR), ("perhaps",))
        self.assertEqual(word_for(CLOCK, OVER, ((0, ONE - 1),), ALL, FAR), ("once", "up"))
        self.assertEqual(word_for(CLOCK, OVER, NEAR, ALL, ((ONE, ONE),)), ("perhaps",))
        self.assertEqual(word_for(CLOCK, OVER, NEAR, ALL, ((ONE + 1, ONE + 1),)), ("once", "up"))


class TestOnce(unittest.TestCase):
    def test_papers(self):
        self.assertEqual(once(CLOCK, PAPER, OVER), ("once", "up"))
        self.assertEqual(once(CLOCK, with_part(PAPER, 5, ((ONE, 7 * ONE // 2),)), OVER), ("perhaps",))
        self.assertEqual(once(CLOCK, PAPER, parse_poly("9 - t", ["t"])), ("never", "above"))
        # The held box itself is asked, be it as wide as one likes.
        self.assertEqual(once(CLOCK, with_part(PAPER, 4, ((-9 * ONE, 9 * ONE),)), parse_poly("9 - t^2", ["t"])), ("perhaps",))

    def test_sets(self):
        line = parse_poly("x - 1", ["x", "y"])
        for paper in TURNED[3]:
            self.assertIs(is_carried(TURNS, paper), True)
            told = word(TURNS, line, set_hull(paper[1]), paper[4], set_hull(paper[5]))
            self.assertEqual(once(TURNS, paper, line), told)
        source = set_of_box(((ONE, ONE + 9), (0, 9)))
        paper = carried(TURNS, source, ONE // 4, 4, 20)
        self.assertEqual(once(TURNS, paper, parse_poly("y - 1/8", ["x", "y"])), ("once", "up"))

    def test_grains(self):
        # The hull of the set to which it leads goes beyond.
        still = system("x", [])
        source = set_of_box(((0, 0),))
        target = ("set", ((0, 1),), (((2 ** 40, 1),),), ((-2 ** 40, 2 ** 40),))
        paper = ("carried", source, ONE, 1, ((0, 0),), target)
        self.assertIs(is_carried(still, paper), True)
        too_many(once, "grains", MOST, still, paper, OVER)
        refuses(once, InvalidPoly, {"value": None}, still, paper, None)

    def test_other_kinds(self):
        self.assertIs(is_step(CLOCK, PAPER), True)
        for paper in [PAPER, TURNED[3][0]] + CARRIED_PAPERS[1]:
            refuses(once, InvalidPaper, {"value": paper}, system("xyz", [], [], []), paper, ())


class TestCourses(unittest.TestCase):
    def test_facts(self):
        """[122]: of steps of known systems each course does what is told."""
        random = Random(123)
        seen = {}
        for name, (own, course) in KNOWN.items():
            box = STARTS[name]
            for _ in range(14):
                step = random.choice([ONE // 4, ONE // 16, ONE // 3])
                paper = step_paper(own, box, step, random.randint(2, 6), 20)
                if paper is None:
                    continue
                guard = self.guard_for(random, own, box_hull(box, paper[5]))
                told = once(own, paper, guard)
                seen[told] = True
                if told == ("perhaps",):
                    continue
                for point in starts(box, random, 3):
                    worths = [value(guard, course(point, Fraction(k * step, 9 * ONE))) for k in range(10)]
                    signs = [worth > 0 for worth in worths if abs(worth) > Fraction(1, 10 ** 40)]
                    changes = sum(a != b for a, b in zip(signs, signs[1:]))
                    self.assertNotEqual(worths[0], 0)
                    self.assertNotEqual(worths[-1], 0)
                    if told[0] == "never":
                        self.assertEqual(set(signs), {told[1] == "above"})
                        self.assertEqual(len(signs), 10)
                    else:
                        self.assertEqual((changes, signs[-1]), (1, told[1] == "up"))
        self.assertEqual(len(seen), 5)

    def guard_for(self, random, own, box):
        """A letter less some number within, or near, where it goes, or the contrary."""
        letters = len(own[1])
        k = random.randrange(letters)
        low, high = box[k]
        at = random.randint(low - (high - low) // 9, high + (high - low) // 9)
        sign_of_it = random.choice([1, -1])
        letter = tuple(int(j == k) for j in range(letters))
        return poly_of_table({letter: Fraction(sign_of_it), (0,) * letters: Fraction(-sign_of_it * at, ONE)})
