"""Reduced rows, kernels and solutions of MATRICES."""

from truecourse.exact import NOUGHT, UNIT
from truecourse.matrices import check_length, check_matrix, check_row
from truecourse.rows import head_of, rows_reduced


def reduced(matrix):
    check_matrix(matrix)
    return rows_reduced(matrix)


def rank(matrix):
    return len(reduced(matrix))


def rows_kernel(matrix):
    """The reduced rows of all that is led to 0."""
    rows = rows_reduced(matrix)
    heads = [head_of(row) for row in rows]
    length = len(matrix[0])
    found = []
    for place in range(length):
        if place in heads:
            continue
        solution = [NOUGHT] * length
        solution[place] = UNIT
        for head, row in zip(heads, rows):
            number, under = row[place]
            solution[head] = (-number, under)
        found.append(solution)
    return rows_reduced(found)


def kernel(matrix):
    check_matrix(matrix)
    return rows_kernel(matrix)


def solved(matrix, row):
    check_matrix(matrix)
    check_row(row)
    check_length(row, len(matrix))
    length = len(matrix[0])
    wide = [own + (last,) for own, last in zip(matrix, row)]
    solution = [NOUGHT] * length
    for own in rows_reduced(wide):
        head = head_of(own)
        if head == length:
            return None
        solution[head] = own[length]
    return tuple(solution)
