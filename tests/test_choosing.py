"""[92], [93], [95], [96]: matrices and sets that are chosen."""

import unittest
from random import Random

from tests import formulas
from tests.courses import BOXES as STARTS, BURSTS, GROWS, KNOWN, STILL, TURNS, system, term
from tests.reference import some_interval
from tests.support import MOST, ONE, ORDER, OTHERS, ROOM, STEP, SYSTEM, check_calls
from tests.test_carried import BEGIN, PLAIN, SET, some_source
from truecourse.carried import is_carried
from truecourse.choosing import carried, choose_matrix
from truecourse.errors import InvalidRows
from truecourse.matrices import determinant, is_matrix
from truecourse.sets import set_hull, set_of_box
from truecourse.steps import step_paper

ROWS = (InvalidRows, OTHERS + [
    3, "x", (), [((0, 1),)], ((),), ([(0, 1)],), (((0, 1),), ((0, 1), (1, 2))), (((1, 0),),), (((True, 2),),),
    (((0, 1), (0, 1)),), (((0, 1),), ((0, 1),)), (((0, 1),) * 9,) * 9, ((0, 1),), (((0, 1),), None), (((0, MOST + 1),),),
    (((0, 1), [0, 1]), ((0, 1), (0, 1)))])


def digits_are(matrix, most):
    return all(abs(number) < 10 ** most and under < 10 ** most for row in matrix for number, under in row)


class TestMatrices(unittest.TestCase):
    def check(self, rows):
        told = choose_matrix(rows)
        self.assertIs(is_matrix(told), True)
        self.assertEqual((len(told), len(told[0])), (len(rows), len(rows)))
        self.assertNotEqual(determinant(told), (0, 1))
        self.assertTrue(digits_are(told, 12))
        return told

    def test_errors(self):
        check_calls(self, choose_matrix, [("rows", (((0, 1), (2, 3)), ((-5, 5), (0, 0))), ROWS)])

    def test_chosen(self):
        one, none = (ONE, ONE), (0, 0)
        self.check(((one, none), (none, one)))
        for rows in [
                ((none,),), ((none, none), (none, none)), ((one, one), (one, one)), ((one, none), (none, none)),
                (((MOST, MOST), none), (none, (-MOST, -MOST))), (((1, 1), (2, 2)), ((2, 2), (4, 5))), (((-MOST, MOST),),),
                (((MOST, MOST), (1, 1)), ((1, 1), none)), ((one, one, none), (one, one, (0, 1)), (none, one, one)),
                ((none,) * 8,) * 8, (((MOST, MOST),) * 8,) * 8]:
            self.check(rows)
        random = Random(95)
        for k in range(120):
            many = 1 + k % 8
            size = random.choice([1, 9, ONE, 2 ** 60])
            self.check(tuple(tuple(some_interval(random, size) for _ in range(many)) for _ in range(many)))


class TestCarried(unittest.TestCase):
    def check(self, own, source, step, many, room):
        told = carried(own, source, step, many, room)
        if told is None:
            return None
        self.assertEqual(told[:4], ("carried", source, step, many))
        self.assertIs(is_carried(own, told), True)
        middle, matrix = told[5][1:3]
        self.assertTrue(digits_are(matrix, 40) and digits_are((middle,), 40))
        return told[5]

    def test_errors(self):
        check_calls(self, carried, [
            ("system", PLAIN, SYSTEM), ("source", BEGIN, SET), ("step", ONE, STEP), ("many", 2, ORDER), ("room", 4, ROOM)])

    def test_found(self):
        """Wherever the trial box of the hull holds the courses, a paper is found."""
        random = Random(96)
        for name, (own, _) in KNOWN.items():
            for _ in range(4):
                source = some_source(random, STARTS[name], len(own[1]))
                step = random.choice([1, ONE // 100, ONE // 9])
                told = self.check(own, source, step, random.choice([1, 4, 8]), 1)
                hull = set_hull(source)
                if formulas.holds(own[2], hull, step, formulas.trial(own[2], hull, step)):
                    self.assertIsNotNone(told, name)

    def test_none(self):
        self.assertIsNone(carried(PLAIN, BEGIN, ONE, 2, 0))
        self.assertIsNone(carried(BURSTS, set_of_box(((ONE, ONE),)), ONE, 3, 40))
        self.assertIsNone(carried(BURSTS, set_of_box(((2 ** 54, 2 ** 54),)), 1, 2, 40))
        self.assertIsNone(carried(GROWS, set_of_box(((MOST, MOST),)), 1, 2, 40))
        far = ("set", ((2 ** 30 + 1, 1),), (((1, 1),),), ((0, 0),))
        self.assertIsNone(carried(STILL, far, 1, 1, 9))
        self.assertIsNotNone(carried(BURSTS, set_of_box(((2 ** 54, 2 ** 54),)), 1, 1, 40))

    def test_sides_of_less_than_a_grain(self):
        # The matrix near that of the step would be 0; sides and numbers may be as unlike as they are.
        for matrix, box in [((((1, 2 ** 60),),), ((-MOST, MOST),)), ((((1, 2 ** 60),),), ((0, 0),)), ((((2 ** 29, 1),),), ((0, 0),))]:
            source = ("set", ((1, 1),), matrix, box)
            for own in (STILL, GROWS):
                self.assertIsNotNone(self.check(own, source, ONE // 8, 2, 9))

    def test_turning(self):
        """[96]: the boxes of the sets grow by some grains alone, upright ones by an eighth."""
        box = ((ONE, ONE + ONE // 10), (0, ONE // 10))
        source, upright = set_of_box(box), box
        for k in range(60):
            target = self.check(TURNS, source, ONE // 8, 8, 20)
            if k > 0:
                for (low, high), (least, most) in zip(target[3], source[3]):
                    self.assertLess((high - low) - (most - least), 60)
            source = target
            if k < 20:
                upright = step_paper(TURNS, upright, ONE // 8, 8, 20)[5]
        self.assertTrue(all(high - low < ONE // 10 + 3000 for low, high in source[3]))
        self.assertTrue(all(high - low > ONE for low, high in upright))

    def test_shrinking_and_shearing(self):
        # Sides that shrink unlike, and sides that come to lie nearly on one another.
        unlike = system("xy", [term(2, (-5, 1), 0)], [term(2, (1, 1), 0), term(2, (-1, 10), 1)])
        shears = system("xy", [term(2, (1, 1), 1)], [])
        for own, step, most in [(unlike, ONE // 16, ONE), (shears, ONE, 80 * ONE)]:
            source = set_of_box(((0, ONE), (0, ONE)))
            for _ in range(60):
                source = self.check(own, source, step, 6, 20)
            self.assertTrue(all(high - low < most for low, high in set_hull(source)))

    def test_points_stay_thin(self):
        source = set_of_box(((ONE, ONE), (0, 0)))
        for _ in range(40):
            source = self.check(TURNS, source, ONE // 8, 8, 20)
        self.assertTrue(all(high - low < 2000 for low, high in set_hull(source)))
