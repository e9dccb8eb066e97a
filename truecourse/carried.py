"""CARRIED PAPERS: slanted sets of starts, and the sets to which a step leads them."""

from truecourse.boxes import check_box_of, check_point_of, is_box
from truecourse.checks import check_order, check_step, check_times, is_order, is_step_length
from truecourse.errors import InvalidCarried, InvalidMatrix, InvalidSet, TooMany
from truecourse.grains import (
    NOTHING, grain_around, grain_hull, grain_minus, grain_plus, grain_scaled, grain_times)
from truecourse.held import holds_courses, is_box_within
from truecourse.matrices import is_matrix, is_square
from truecourse.polys import check_system
from truecourse.rows import rows_determinant, rows_inverse
from truecourse.sets import hull_of_set, is_set
from truecourse.slopeseries import grain_slopes
from truecourse.steps import met_sums, sums_at


def around_all(point):
    return tuple([grain_around(ratio) for ratio in point])


def _scaled_sum(intervals, ratios):
    """The sum, from (0, 0) on, of intervals scaled by ratios."""
    total = NOTHING
    for interval, ratio in zip(intervals, ratios):
        total = grain_plus(total, grain_scaled(interval, ratio))
    return total


def _summed_slopes(matrices, step):
    """How what the series come to at the step's end hangs on the start: J."""
    total = matrices[-1]
    for matrix in matrices[-2::-1]:
        total = [
            [grain_plus(own, grain_times((step, step), e)) for own, e in zip(row, last)]
            for row, last in zip(matrix, total)]
    return total


def led_matrix(polys, source, step, many):
    """G: how what the step leads to hangs on the numbers in the box of the set."""
    _, middle, matrix, _ = source
    hull = hull_of_set(source)
    joined = tuple([grain_hull(one, other) for one, other in zip(hull, around_all(middle))])
    slopes = _summed_slopes(grain_slopes(polys, joined, many), step)
    places = range(len(polys))
    columns = [[row[k] for row in matrix] for k in places]
    return [[_scaled_sum(row, columns[k]) for k in places] for row in slopes]


def middle_ends(polys, source, step, many, held):
    """Where the middle of the set comes to, intervals not met with the held box."""
    return sums_at(polys, around_all(source[1]), many, held, (step, step))


def ranges_for(led, ends, box, middle, matrix):
    """The box of the ranges, by G, the ends of the middle, and the box of the set."""
    apart = [grain_minus(end, grain_around(ratio)) for end, ratio in zip(ends, middle)]
    columns = [[row[k] for row in led] for k in range(len(box))]
    found = []
    for own in rows_inverse(matrix):
        total = NOTHING
        for column, interval in zip(columns, box):
            total = grain_plus(total, grain_times(_scaled_sum(column, own), interval))
        found.append(grain_plus(total, _scaled_sum(apart, own)))
    return tuple(found)


def _ranges(polys, source, step, many, held, middle, matrix):
    led = led_matrix(polys, source, step, many)
    ends = middle_ends(polys, source, step, many, held)
    return ranges_for(led, ends, source[3], middle, matrix)


def _is_set_of(letters, value):
    return is_set(value) and len(value[1]) == letters


def check_source(system, source):
    if not _is_set_of(len(system[1]), source):
        raise InvalidSet(source)


def _check_inverse(letters, matrix):
    if not is_matrix(matrix) or not is_square(matrix) or len(matrix) != letters:
        raise InvalidMatrix(matrix)
    if rows_determinant(matrix)[0] == 0:
        raise InvalidMatrix(matrix)


def ranges(system, source, step, many, held, middle, matrix):
    check_system(system)
    check_source(system, source)
    check_step(step)
    check_order(many)
    letters = len(system[1])
    check_box_of(letters, held)
    check_point_of(letters, middle)
    _check_inverse(letters, matrix)
    return _ranges(system[2], source, step, many, held, middle, matrix)


def _is_form(value, letters):
    """Whether any value is a carried paper of so many letters, taken or not."""
    if not isinstance(value, tuple) or len(value) != 6:
        return False
    word, source, step, many, held, target = value
    if not isinstance(word, str) or word != "carried":
        return False
    if not is_step_length(step) or not is_order(many):
        return False
    if not is_box(held) or len(held) != letters:
        return False
    return _is_set_of(letters, source) and _is_set_of(letters, target)


def is_carried_taken(system, value):
    """Whether any value is a carried paper, of a system that is known to be one, that is taken."""
    if not _is_form(value, len(system[1])):
        return False
    _, source, step, many, held, target = value
    polys = system[2]
    try:
        if not holds_courses(polys, hull_of_set(source), step, held):
            return False
        box = _ranges(polys, source, step, many, held, target[1], target[2])
    except TooMany:
        return False
    return is_box_within(box, target[3])


def is_carried(system, value):
    check_system(system)
    return is_carried_taken(system, value)


def carried_during_on(system, paper, early, late):
    """The box at these times of a step whose carried paper is known to be taken."""
    _, source, _, many, held, _ = paper
    return met_sums(system[2], hull_of_set(source), many, held, (early, late))


def carried_during(system, paper, early, late):
    check_system(system)
    if not is_carried_taken(system, paper):
        raise InvalidCarried(paper)
    check_times(early, late, paper[2])
    return carried_during_on(system, paper, early, late)
