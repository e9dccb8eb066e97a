"""INTERVALS of grains, and reckoning with them."""

from truecourse.errors import InvalidInterval, InvalidMany, NoQuotient
from truecourse.exact import ratio_of
from truecourse.grains import (
    MOST_GRAINS, ONE, grain_around, grain_hull, grain_meet, grain_minus, grain_over, grain_plus,
    grain_power, grain_scaled, grain_times, has_ratio, lies_within, middle_of)
from truecourse.kinds import is_from_to, is_integer
from truecourse.ratios import check_ratio

_MOST_POWER = 40


def is_interval(value):
    if not isinstance(value, tuple) or len(value) != 2:
        return False
    low, high = value
    if not is_integer(low) or not is_integer(high):
        return False
    return -MOST_GRAINS <= low <= high <= MOST_GRAINS


def check_interval(interval):
    if not is_interval(interval):
        raise InvalidInterval(interval)


def _check_both(one, other):
    check_interval(one)
    check_interval(other)


def around(ratio):
    check_ratio(ratio)
    return grain_around(ratio)


def ends_of(interval):
    check_interval(interval)
    return (ratio_of(interval[0], ONE), ratio_of(interval[1], ONE))


def holds_ratio(interval, ratio):
    check_interval(interval)
    check_ratio(ratio)
    return has_ratio(interval, ratio)


def plus(one, other):
    _check_both(one, other)
    return grain_plus(one, other)


def minus(one, other):
    _check_both(one, other)
    return grain_minus(one, other)


def times(one, other):
    _check_both(one, other)
    return grain_times(one, other)


def over(one, other):
    _check_both(one, other)
    if other[0] <= 0 <= other[1]:
        raise NoQuotient()
    return grain_over(one, other)


def powered(interval, many):
    check_interval(interval)
    if not is_from_to(many, 0, _MOST_POWER):
        raise InvalidMany(many)
    return grain_power(interval, many)


def scaled(interval, ratio):
    check_interval(interval)
    check_ratio(ratio)
    return grain_scaled(interval, ratio)


def hull(one, other):
    _check_both(one, other)
    return grain_hull(one, other)


def meet(one, other):
    _check_both(one, other)
    return grain_meet(one, other)


def within(one, other):
    _check_both(one, other)
    return lies_within(one, other)


def width(interval):
    check_interval(interval)
    return interval[1] - interval[0]


def middle(interval):
    check_interval(interval)
    return middle_of(interval)


def halves(interval):
    check_interval(interval)
    half = middle_of(interval)
    return ((interval[0], half), (half, interval[1]))
