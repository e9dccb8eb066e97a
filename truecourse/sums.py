"""Sums with rests: RATIOS between which the values of the known functions lie."""

from truecourse.errors import InvalidMany, NotThere
from truecourse.exact import (
    NOUGHT, UNIT, ratio_minus, ratio_of, ratio_over, ratio_plus, ratio_power, ratio_times)
from truecourse.kinds import is_from_to
from truecourse.ratios import check_ratio

_MOST_MANY = 12


def check_sum(ratio, many):
    check_ratio(ratio)
    if not is_from_to(many, 1, _MOST_MANY):
        raise InvalidMany(many)


def check_near(ratio):
    """The number must lie from -1 to 1."""
    if abs(ratio[0]) > ratio[1]:
        raise NotThere()


def _size(ratio):
    return (abs(ratio[0]), ratio[1])


def _apart(total, rest):
    """The sum less its rest, and the sum plus its rest."""
    return (ratio_minus(total, rest), ratio_plus(total, rest))


def exp_sum(ratio, many):
    total = NOUGHT
    term = UNIT
    for k in range(many):
        total = ratio_plus(total, term)
        term = ratio_times(term, ratio_of(ratio[0], ratio[1] * (k + 1)))
    return _apart(total, ratio_times((2, 1), _size(term)))


def _circle_sum(ratio, many, first, below):
    """The sum that begins with the first term; the number below rises by two."""
    total = NOUGHT
    term = first
    square = ratio_power(ratio, 2)
    for k in range(many):
        total = ratio_plus(total, term)
        step = (below + 2 * k + 1) * (below + 2 * k + 2)
        term = ratio_times(term, ratio_of(-square[0], square[1] * step))
    return _apart(total, _size(term))


def sine_sum(ratio, many):
    return _circle_sum(ratio, many, ratio, 1)


def cosine_sum(ratio, many):
    return _circle_sum(ratio, many, UNIT, 0)


def log_sum(ratio, many):
    part = ratio_over(ratio_minus(ratio, UNIT), ratio_plus(ratio, UNIT))
    square = ratio_power(part, 2)
    total = NOUGHT
    power = part
    for k in range(many):
        total = ratio_plus(total, ratio_times(power, (1, 2 * k + 1)))
        power = ratio_times(power, square)
    rest = ratio_times(_size(power), ratio_of(9, 4 * (2 * many + 1)))
    return _apart(ratio_times((2, 1), total), rest)
