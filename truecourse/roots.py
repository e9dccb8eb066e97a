"""The square root, and one over a number."""

from math import isqrt

from truecourse.errors import NotThere
from truecourse.grains import ONE, WHOLE, grain_over, in_bounds
from truecourse.intervals import check_interval


def _root_above(number):
    """The least INTEGER whose square is at least the number."""
    root = isqrt(number)
    if root * root < number:
        return root + 1
    return root


def root_of(interval):
    check_interval(interval)
    low, high = interval
    if low < 0:
        raise NotThere()
    return in_bounds(isqrt(low * ONE), _root_above(high * ONE))


def over_of(interval):
    check_interval(interval)
    if interval[0] <= 0 <= interval[1]:
        raise NotThere()
    return grain_over(WHOLE, interval)
