"""AFFINE SETS: boxes that are turned, stretched and moved."""

from truecourse.boxes import check_box, check_point, check_sizes, is_box, is_point
from truecourse.errors import InvalidBits, InvalidRows, InvalidSet, NoInverse
from truecourse.exact import NOUGHT, is_less, ratio_of, ratio_plus, ratio_times
from truecourse.grains import (
    NOTHING, ONE, grain_around, grain_plus, grain_scaled, has_ratio, middle_of)
from truecourse.intervals import is_interval
from truecourse.kinds import is_from_to, is_some_tuple
from truecourse.matrices import (
    check_length, check_matrix, check_row, check_square, is_matrix, is_square)
from truecourse.rows import (
    row_minus, row_plus, rows_determinant, rows_inverse, rows_led, rows_product, unit_rows)

_MOST_BITS = 40


def is_set(value):
    if not isinstance(value, tuple) or len(value) != 4:
        return False
    word, middle, matrix, box = value
    if not isinstance(word, str) or word != "set":
        return False
    if not is_point(middle) or not is_matrix(matrix) or not is_box(box):
        return False
    if not is_square(matrix) or not len(middle) == len(matrix) == len(box):
        return False
    return rows_determinant(matrix)[0] != 0


def check_set(affine):
    if not is_set(affine):
        raise InvalidSet(affine)


def set_from_box(box):
    """The set of a box that is known to be one."""
    middles = [middle_of(interval) for interval in box]
    point = tuple([ratio_of(middle, ONE) for middle in middles])
    apart = tuple([(low - middle, high - middle) for (low, high), middle in zip(box, middles)])
    return ("set", point, unit_rows(len(box)), apart)


def set_of_box(box):
    check_box(box)
    return set_from_box(box)


def hull_of_set(affine):
    """The hull of a set that is known to be one."""
    _, middle, matrix, box = affine
    parts = []
    for ratio, row in zip(middle, matrix):
        total = NOTHING
        for interval, factor in zip(box, row):
            total = grain_plus(total, grain_scaled(interval, factor))
        parts.append(grain_plus(grain_around(ratio), total))
    return tuple(parts)


def set_hull(affine):
    check_set(affine)
    return hull_of_set(affine)


def point_of(affine, row):
    check_set(affine)
    check_row(row)
    check_length(row, len(affine[1]))
    return row_plus(affine[1], rows_led(affine[2], row))


def holds(affine, point):
    check_set(affine)
    check_point(point)
    check_sizes(affine[1], point)
    _, middle, matrix, box = affine
    row = rows_led(rows_inverse(matrix), row_minus(point, middle))
    return all([has_ratio(interval, ratio) for interval, ratio in zip(box, row)])


def moved_set(affine, matrix, point):
    check_set(affine)
    check_matrix(matrix)
    check_point(point)
    _, middle, own, box = affine
    check_length(middle, len(matrix[0]))
    check_length(point, len(matrix))
    check_square(matrix)
    if rows_determinant(matrix)[0] == 0:
        raise NoInverse()
    moved = row_plus(rows_led(matrix, middle), point)
    return ("set", moved, rows_product(matrix, own), box)


def _end_of_sum(row, box, is_high):
    """The greatest (or the least) sum of products of a row and numbers from a box, of grains."""
    total = NOUGHT
    for ratio, interval in zip(row, box):
        end = interval[1] if is_high == (ratio[0] > 0) else interval[0]
        total = ratio_plus(total, ratio_times(ratio, (end, 1)))
    return total


def set_within(affine, other):
    check_set(affine)
    check_set(other)
    check_sizes(affine[1], other[1])
    back = rows_inverse(other[2])
    apart = rows_led(back, row_minus(affine[1], other[1]))
    rows = rows_product(back, affine[2])
    for ratio, row, interval in zip(apart, rows, other[3]):
        grains = ratio_times(ratio, (ONE, 1))
        low = ratio_plus(grains, _end_of_sum(row, affine[3], False))
        high = ratio_plus(grains, _end_of_sum(row, affine[3], True))
        if is_less(low, (interval[0], 1)) or is_less((interval[1], 1), high):
            return False
    return True


def _is_interval_row(value):
    return is_some_tuple(value) and all(is_interval(part) for part in value)


def are_interval_rows(value):
    """Whether any value is a tuple of rows of INTERVALS, all of as many."""
    if not is_some_tuple(value) or not all(_is_interval_row(row) for row in value):
        return False
    return all(len(row) == len(value[0]) for row in value)


def _rounded(interval, bits):
    parts = 1 << bits
    # Half of one part more, rounded down, is the nearest, of two such the greater one.
    nearest = ((interval[0] + interval[1]) * parts + ONE) // (2 * ONE)
    return ratio_of(nearest, parts)


def rounded_matrix(rows, bits):
    if not are_interval_rows(rows):
        raise InvalidRows(rows)
    if not is_from_to(bits, 0, _MOST_BITS):
        raise InvalidBits(bits)
    return tuple([tuple([_rounded(interval, bits) for interval in row]) for row in rows])
