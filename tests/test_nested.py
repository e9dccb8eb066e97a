"""[26]: nested forms."""

import unittest
from random import Random

from tests.reference import some_poly, some_ratio
from tests.support import MANY_TERMS, OTHERS, POINTS, POLYS, check_calls, counts_wrong, refuses
from truecourse.errors import InvalidMany, InvalidNested, InvalidPoint, InvalidPoly
from truecourse.nested import is_nested, nested_of, poly_of_nested, value_of_nested
from truecourse.polys import value_at

N, U = (0, 1), (1, 1)
MANY = (InvalidMany, counts_wrong(1, 8))
# None of these is a nested form in two letters.
WRONG = OTHERS + [
    3, (), ((),), (N,), N, ((N, N),), (((0, 1),), ((0, 1),)), ((U, N),), ((U,), (N,)), [(U,)],
    ([U],), ((True, 1),), (((True, 1),),), (((2, 2),),), (((1, 0),),), (((U,),),),
    ((N,) * 9 + (U,),), ((N,),) * 9 + ((U,),), ((N,), (N, N, U, N)), ((N,),) + ((N,) * 8 + (U,),)]


class TestNested(unittest.TestCase):
    def test_forms(self):
        one = (((0, 1), (2, 1)), ((2, 0), (3, 1)))
        form = ((N, (2, 1)), (N,), ((3, 1),))
        self.assertEqual(nested_of(2, one), form)
        self.assertEqual(poly_of_nested(2, form), one)
        self.assertEqual(nested_of(1, ()), (N,))
        self.assertEqual(nested_of(3, ()), (((N,),),))
        self.assertEqual(poly_of_nested(8, nested_of(8, ())), ())
        self.assertEqual(nested_of(1, (((8,), (1, 2)),)), (N,) * 8 + ((1, 2),))

    def test_wrong_forms(self):
        for value in WRONG:
            self.assertIs(is_nested(2, value), False, value)
        for value in [((N,),), ((U,),), ((U, N, U),), ((N,) * 8 + (U,),), ((N,),) * 8 + ((U,),),
                      ((N,), (N,) * 7 + (U,))]:
            self.assertIs(is_nested(2, value), True, value)
        self.assertIs(is_nested(1, N), False)
        self.assertIs(is_nested(1, (N,)), True)
        self.assertIs(is_nested(3, nested_of(3, MANY_TERMS[:60])), True)

    def test_too_many_terms(self):
        # All of degree at most 4 in four letters are 70 terms.
        def form(letters, room):
            if letters == 0:
                return U
            return tuple(form(letters - 1, room - k) for k in range(room + 1))
        self.assertIs(is_nested(4, form(4, 4)), False)
        self.assertIs(is_nested(4, form(4, 3)), True)
        self.assertIs(is_nested(3, form(3, 4)), True)

    def test_a_wide_value_is_looked_at_shortly(self):
        value = N
        for _ in range(8):
            value = (value,) * 9
        self.assertIs(is_nested(8, value), False)

    def test_errors(self):
        point = ("point", ((1, 2), (3, 1)), (InvalidPoint, POINTS + [((1, 2),)]))
        nested = ("nested", ((U, U),), (InvalidNested, WRONG))
        poly = ("poly", (((0, 1), U),), (InvalidPoly, POLYS + [(((1,), U),)]))
        check_calls(self, nested_of, [("many", 2, MANY), poly])
        check_calls(self, poly_of_nested, [("many", 2, MANY), nested])
        check_calls(self, value_of_nested, [("many", 2, MANY), nested, point])
        for many in MANY[1]:
            refuses(is_nested, InvalidMany, {"value": many}, many, (N,))

    def test_values(self):
        random = Random(5)
        for k in range(100):
            letters = 1 + k % 5
            poly = some_poly(random, letters, 7, 8)
            form = nested_of(letters, poly)
            self.assertIs(is_nested(letters, form), True)
            self.assertEqual(poly_of_nested(letters, form), poly)
            point = tuple(some_ratio(random) for _ in range(letters))
            self.assertEqual(value_of_nested(letters, form, point), value_at(poly, point))
