"""MATRICES of RATIOS."""

from truecourse.boxes import is_point
from truecourse.errors import InvalidMany, InvalidMatrix, InvalidRow, NotSquare, UnlikeSizes
from truecourse.kinds import MOST_LETTERS, is_from_to, is_some_tuple
from truecourse.rows import (
    rows_determinant, rows_inverse, rows_led, rows_product, rows_turned, unit_rows)


def is_matrix(value):
    # A row is a tuple of 1 to 8 RATIOS, as a point is.
    if not is_some_tuple(value) or not all(is_point(row) for row in value):
        return False
    return all(len(row) == len(value[0]) for row in value)


def is_square(matrix):
    return len(matrix) == len(matrix[0])


def check_matrix(matrix):
    if not is_matrix(matrix):
        raise InvalidMatrix(matrix)


def check_row(row):
    if not is_point(row):
        raise InvalidRow(row)


def check_length(row, many):
    if len(row) != many:
        raise UnlikeSizes()


def check_square(matrix):
    if not is_square(matrix):
        raise NotSquare()


def unit_matrix(many):
    if not is_from_to(many, 1, MOST_LETTERS):
        raise InvalidMany(many)
    return unit_rows(many)


def product(matrix, other):
    check_matrix(matrix)
    check_matrix(other)
    check_length(matrix[0], len(other))
    return rows_product(matrix, other)


def turned(matrix):
    check_matrix(matrix)
    return rows_turned(matrix)


def led(matrix, row):
    check_matrix(matrix)
    check_row(row)
    check_length(row, len(matrix[0]))
    return rows_led(matrix, row)


def determinant(matrix):
    check_matrix(matrix)
    check_square(matrix)
    return rows_determinant(matrix)


def inverse(matrix):
    check_matrix(matrix)
    check_square(matrix)
    return rows_inverse(matrix)
