"""The exponential function and the logarithm."""

from truecourse.errors import NotThere
from truecourse.exact import ratio_of
from truecourse.fine import (
    fine_of, fine_plus, fine_scaled, fine_times, grains_of, halved, halvings_of)
from truecourse.grains import ONE
from truecourse.intervals import check_interval
from truecourse.sums import check_near, check_sum, exp_sum, log_sum

# With so many terms the rests are less than 2 ** -128 for the numbers that are asked here.
_EXP_TERMS = 36
_LOG_TERMS = 48

_EXP_END = 1 << 44
_LOG_LEAST = 1 << 24
_LOG_MOST = 1 << 56


def exp_between(ratio, many):
    check_sum(ratio, many)
    check_near(ratio)
    return exp_sum(ratio, many)


def log_between(ratio, many):
    check_sum(ratio, many)
    number, under = ratio
    if 2 * number < under or number > 2 * under:
        raise NotThere()
    return log_sum(ratio, many)


def _exp_fine(number):
    times = halvings_of(number)
    value = fine_of(exp_sum(halved(number, times), _EXP_TERMS))
    for _ in range(times):
        value = fine_times(value, value)
    return value


def exp_of(interval):
    check_interval(interval)
    low, high = interval
    if low < -_EXP_END or high > _EXP_END:
        raise NotThere()
    return grains_of(_exp_fine(low)[0], _exp_fine(high)[1])


def _log_fine(number):
    # The number is brought near 1, where the sum is short, and log 2 taken so often.
    doubled = 0
    under = ONE
    while 3 * number > 4 * under:
        under = 2 * under
        doubled += 1
    while 3 * number < 2 * under:
        number = 2 * number
        doubled -= 1
    near = fine_of(log_sum(ratio_of(number, under), _LOG_TERMS))
    half = fine_of(log_sum((1, 2), _LOG_TERMS))
    return fine_plus(near, fine_scaled(half, -doubled))


def log_of(interval):
    check_interval(interval)
    low, high = interval
    if low < _LOG_LEAST or high > _LOG_MOST:
        raise NotThere()
    return grains_of(_log_fine(low)[0], _log_fine(high)[1])
