"""Exact reckoning with rows of RATIOS, and with MATRICES, that are known to be such."""

from truecourse.exact import NOUGHT, UNIT, ratio_minus, ratio_over, ratio_plus, ratio_times


def row_sum(row, other):
    """The sum of the products of two rows."""
    total = NOUGHT
    for one, two in zip(row, other):
        total = ratio_plus(total, ratio_times(one, two))
    return total


def row_plus(row, other):
    return tuple([ratio_plus(one, two) for one, two in zip(row, other)])


def row_minus(row, other):
    return tuple([ratio_minus(one, two) for one, two in zip(row, other)])


def unit_rows(many):
    return tuple([tuple([UNIT if i == j else NOUGHT for j in range(many)]) for i in range(many)])


def rows_turned(matrix):
    return tuple([tuple([row[k] for row in matrix]) for k in range(len(matrix[0]))])


def rows_led(matrix, row):
    return tuple([row_sum(own, row) for own in matrix])


def rows_product(matrix, other):
    columns = rows_turned(other)
    return tuple([rows_led(columns, row) for row in matrix])


def _lessened(row, other, ratio):
    """A row less another one so often."""
    return [ratio_minus(one, ratio_times(ratio, two)) for one, two in zip(row, other)]


def _head_row(rows, begin, place):
    """The first row from begin on with a number at the place that is not 0; None without one."""
    for k in range(begin, len(rows)):
        if rows[k][place][0] != 0:
            return k
    return None


def rows_reduced(matrix):
    """The list of the reduced rows, as tuples."""
    rows = [list(row) for row in matrix]
    done = 0
    for place in range(len(matrix[0]) if matrix else 0):
        found = _head_row(rows, done, place)
        if found is None:
            continue
        rows[done], rows[found] = rows[found], rows[done]
        head = rows[done][place]
        rows[done] = [ratio_over(ratio, head) for ratio in rows[done]]
        for k in range(len(rows)):
            if k != done and rows[k][place][0] != 0:
                rows[k] = _lessened(rows[k], rows[done], rows[k][place])
        done += 1
    return [tuple(row) for row in rows[:done]]


def rows_determinant(matrix):
    rows = [list(row) for row in matrix]
    result = UNIT
    for place in range(len(rows)):
        found = _head_row(rows, place, place)
        if found is None:
            return NOUGHT
        if found != place:
            rows[place], rows[found] = rows[found], rows[place]
            result = (-result[0], result[1])
        head = rows[place][place]
        result = ratio_times(result, head)
        for k in range(place + 1, len(rows)):
            rows[k] = _lessened(rows[k], rows[place], ratio_over(rows[k][place], head))
    return result


def rows_inverse(matrix):
    """The inverse of a square matrix, None if there is none."""
    many = len(matrix)
    wide = [row + unit for row, unit in zip(matrix, unit_rows(many))]
    rows = rows_reduced(wide)
    # Each row of the wide matrix goes alone, so none is lost; the heads tell the rest.
    if rows[many - 1][many - 1][0] == 0:
        return None
    return tuple([row[many:] for row in rows])


def head_of(row):
    """The place of the first number that is not 0, None without one."""
    for place, ratio in enumerate(row):
        if ratio[0] != 0:
            return place
    return None
