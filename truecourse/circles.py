"""Sine and cosine."""

from truecourse.errors import NotThere
from truecourse.fine import (
    FINE, fine_of, fine_plus, fine_scaled, fine_times, grains_of, halved, halvings_of)
from truecourse.grains import ONE
from truecourse.intervals import check_interval
from truecourse.sums import check_near, check_sum, cosine_sum, sine_sum

# With so many terms the rests are less than 2 ** -128 for numbers up to 1/2.
_TERMS = 18
_FARTHEST = 1 << 46

# Half a turn lies between so many parts and one more.
_PI = 314159265358979323846264338327950288419716939937510
_PI_PARTS = 10 ** 50

_SINE = 0
_COSINE = 1


def sine_between(ratio, many):
    check_sum(ratio, many)
    check_near(ratio)
    return sine_sum(ratio, many)


def cosine_between(ratio, many):
    check_sum(ratio, many)
    check_near(ratio)
    return cosine_sum(ratio, many)


def _circle_fine(number):
    """Sine and cosine of so many grains."""
    times = halvings_of(number)
    near = halved(number, times)
    sine = fine_of(sine_sum(near, _TERMS))
    cosine = fine_of(cosine_sum(near, _TERMS))
    for _ in range(times):
        sine = fine_scaled(fine_times(sine, cosine), 2)
        cosine = fine_plus(fine_scaled(fine_times(cosine, cosine), 2), (-FINE, -FINE))
    return (sine, cosine)


def _may_have_place(interval, quarter):
    """Whether a place so many quarters behind a whole number of turns may lie within."""
    low = interval[0] * 2 * _PI_PARTS
    high = interval[1] * 2 * _PI_PARTS
    # Eleven turns go beyond all numbers for which the functions are there.
    for turn in range(-11, 12):
        many = 4 * turn + quarter
        ends = (many * _PI * ONE, many * (_PI + 1) * ONE)
        if min(ends) <= high and low <= max(ends):
            return True
    return False


def _values_on(interval, which, top, bottom):
    """The interval that holds the values, given the quarters where they are 1 and -1."""
    check_interval(interval)
    if interval[0] < -_FARTHEST or interval[1] > _FARTHEST:
        raise NotThere()
    ends = [_circle_fine(number)[which] for number in interval]
    low = max(-FINE, min([end[0] for end in ends]))
    high = min(FINE, max([end[1] for end in ends]))
    if _may_have_place(interval, top):
        high = FINE
    if _may_have_place(interval, bottom):
        low = -FINE
    return grains_of(low, high)


def sine_of(interval):
    return _values_on(interval, _SINE, 1, 3)


def cosine_of(interval):
    return _values_on(interval, _COSINE, 0, 2)
