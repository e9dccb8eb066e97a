"""Series by recurrence, from points and on boxes, and their sums."""

from truecourse.boxes import check_box_of, check_point_of
from truecourse.errors import InvalidCoefficients
from truecourse.exact import ratio_plus, ratio_times
from truecourse.grains import grain_plus, grain_times
from truecourse.intervals import check_interval, is_interval
from truecourse.kinds import is_listed
from truecourse.plainseries import check_coefficients
from truecourse.polys import check_system
from truecourse.ratios import check_ratio, is_ratio
from truecourse.recurrence import ExactWay, GrainWay, letter_series

_MOST_SUMMED = 40


def series_at(system, point, many):
    check_system(system)
    check_point_of(len(system[1]), point)
    check_coefficients(many)
    return letter_series(system[2], point, many, ExactWay())


def grain_series(polys, box, many):
    """The coefficients on a box, of a system's polys that are known to be such."""
    return letter_series(polys, box, many, GrainWay())


def series_on(system, box, many):
    check_system(system)
    check_box_of(len(system[1]), box)
    check_coefficients(many)
    return grain_series(system[2], box, many)


def _is_long_enough(value):
    return is_listed(value) and 1 <= len(value) <= _MOST_SUMMED


def sum_of(coefficients, ratio):
    if not _is_long_enough(coefficients) or not all(is_ratio(part) for part in coefficients):
        raise InvalidCoefficients(coefficients)
    check_ratio(ratio)
    total = coefficients[-1]
    for number in coefficients[-2::-1]:
        total = ratio_plus(number, ratio_times(ratio, total))
    return total


def grain_sum(coefficients, interval):
    total = coefficients[-1]
    for number in coefficients[-2::-1]:
        total = grain_plus(number, grain_times(interval, total))
    return total


def sum_on(coefficients, interval):
    if not _is_long_enough(coefficients) or not all(is_interval(part) for part in coefficients):
        raise InvalidCoefficients(coefficients)
    check_interval(interval)
    return grain_sum(coefficients, interval)
