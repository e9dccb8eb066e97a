"""Other letters for a system: y = M x + c."""

from truecourse.boxes import check_box_of, check_point_of
from truecourse.errors import InvalidMatrix, NoInverse
from truecourse.exact import ratio_times
from truecourse.grains import NOTHING, grain_around, grain_plus, grain_scaled
from truecourse.matrices import is_matrix, is_square
from truecourse.polys import check_system
from truecourse.rows import row_plus, rows_inverse, rows_led
from truecourse.terms import (
    constant_poly, letter_poly, limited, terms_plus, terms_put, terms_scaled)

_MINUS = (-1, 1)


def _check_square(matrix):
    if not is_matrix(matrix) or not is_square(matrix):
        raise InvalidMatrix(matrix)


def _inverse_of(matrix):
    inverse = rows_inverse(matrix)
    if inverse is None:
        raise NoInverse()
    return inverse


def _led_back(inverse, point):
    """The point that leads back: less the inverse's of the point."""
    return tuple([ratio_times(_MINUS, ratio) for ratio in rows_led(inverse, point)])


def _added(polys, ratios):
    """The sum of so many times each of some polys."""
    total = ()
    for poly, ratio in zip(polys, ratios):
        total = terms_plus(total, terms_scaled(poly, ratio))
    return total


def _letters_told(matrix, point):
    """For each row of a matrix the poly that tells the led letter, the point's ratio added."""
    letters = len(point)
    singles = [letter_poly(k, letters) for k in range(letters)]
    return [
        terms_plus(_added(singles, row), constant_poly(ratio, letters))
        for row, ratio in zip(matrix, point)]


def letters_changed(system, matrix, point):
    check_system(system)
    word, names, polys = system
    letters = len(names)
    if not is_matrix(matrix) or not is_square(matrix) or len(matrix) != letters:
        raise InvalidMatrix(matrix)
    check_point_of(letters, point)
    inverse = _inverse_of(matrix)
    olds = _letters_told(inverse, _led_back(inverse, point))
    slopes = [terms_put(poly, olds, letters) for poly in polys]
    return (word, names, tuple([limited(_added(slopes, row)) for row in matrix]))


def change_back(matrix, point):
    _check_square(matrix)
    check_point_of(len(matrix), point)
    inverse = _inverse_of(matrix)
    return (inverse, _led_back(inverse, point))


def led_point(matrix, point, spot):
    _check_square(matrix)
    check_point_of(len(matrix), point)
    check_point_of(len(matrix), spot)
    return row_plus(rows_led(matrix, spot), point)


def led_box(matrix, point, box):
    _check_square(matrix)
    check_point_of(len(matrix), point)
    check_box_of(len(matrix), box)
    found = []
    for row, ratio in zip(matrix, point):
        total = NOTHING
        for interval, factor in zip(box, row):
            total = grain_plus(total, grain_scaled(interval, factor))
        found.append(grain_plus(total, grain_around(ratio)))
    return tuple(found)
