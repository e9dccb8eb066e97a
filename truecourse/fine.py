"""Intervals on a grid that is finer than grains, all roundings outward.

FINE stands for 1 there. What is reckoned on it has ends far within a grain of the exact ones.
"""

from truecourse.exact import ceiling_of, floor_of, ratio_of
from truecourse.grains import ONE, in_bounds

FINE = 1 << 128
_FINE_OF_GRAIN = 1 << 88


def fine_of(ends):
    """The interval from the one of two RATIOS to the other."""
    return (floor_of(ends[0], FINE), ceiling_of(ends[1], FINE))


def fine_times(one, other):
    low, high = one
    least, greatest = other
    products = (low * least, low * greatest, high * least, high * greatest)
    return (min(products) // FINE, -(-max(products) // FINE))


def fine_plus(one, other):
    return (one[0] + other[0], one[1] + other[1])


def fine_scaled(interval, number):
    """An interval taken so often, the number an INTEGER."""
    ends = (interval[0] * number, interval[1] * number)
    return (min(ends), max(ends))


def grains_of(low, high):
    """The interval of grains that holds all from the one to the other place of the grid."""
    return in_bounds(low // _FINE_OF_GRAIN, -(-high // _FINE_OF_GRAIN))


def halvings_of(number):
    """How often so many grains must be halved to come to 1/2 in size, or less."""
    times = 0
    while 2 * abs(number) > ONE << times:
        times += 1
    return times


def halved(number, times):
    """So many grains, halved so often, as a RATIO."""
    return ratio_of(number, ONE << times)
