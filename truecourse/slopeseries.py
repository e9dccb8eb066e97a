"""How coefficients hang on the start: matrices of their slopes, from points and on boxes."""

from truecourse.boxes import check_box_of, check_point_of
from truecourse.plainseries import check_coefficients
from truecourse.polys import check_system
from truecourse.recurrence import ExactWay, GrainWay, start_slopes


def _matrices(by_start, many):
    """By numbers the matrices, row i of the letter i, column j by the start of the letter j."""
    letters = range(len(by_start))
    return [
        tuple([tuple([by_start[j][i][k] for j in letters]) for i in letters]) for k in range(many)]


def slopes_at(system, point, many):
    check_system(system)
    check_point_of(len(system[1]), point)
    check_coefficients(many)
    return _matrices(start_slopes(system[2], point, many, ExactWay()), many)


def grain_slopes(polys, box, many):
    """The matrices on a box, of a system's polys that are known to be such."""
    return _matrices(start_slopes(polys, box, many, GrainWay()), many)


def slopes_on(system, box, many):
    check_system(system)
    check_box_of(len(system[1]), box)
    check_coefficients(many)
    return grain_slopes(system[2], box, many)
