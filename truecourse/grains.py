"""Reckoning with INTERVALS of grains that are known to be such, all roundings outward."""

from truecourse.errors import TooMany
from truecourse.exact import ceiling_of, floor_of, integer_power

ONE = 1 << 40
MOST_GRAINS = 1 << 70

NOTHING = (0, 0)
WHOLE = (1 << 40, 1 << 40)


def in_bounds(low, high):
    """The INTERVAL of these ends, which are made just now."""
    if low < -MOST_GRAINS or high > MOST_GRAINS:
        raise TooMany("grains", MOST_GRAINS)
    return (low, high)


def grain_around(ratio):
    return in_bounds(floor_of(ratio, ONE), ceiling_of(ratio, ONE))


def grain_plus(one, other):
    return in_bounds(one[0] + other[0], one[1] + other[1])


def grain_minus(one, other):
    return in_bounds(one[0] - other[1], one[1] - other[0])


def grain_times(one, other):
    low, high = one
    least, greatest = other
    ends = (low * least, low * greatest, high * least, high * greatest)
    return in_bounds(min(ends) // ONE, -(-max(ends) // ONE))


def grain_over(one, other):
    """All quotients, where 0 is not in the other one."""
    if other[1] < 0:
        return grain_over((-one[1], -one[0]), (-other[1], -other[0]))
    low, high = one
    least, greatest = other
    # A lesser number below makes a quotient greater in size, whatever its sign.
    below = greatest if low >= 0 else least
    above = least if high >= 0 else greatest
    return in_bounds(low * ONE // below, -(-high * ONE // above))


def grain_power(interval, many):
    if many == 0:
        return WHOLE
    under = integer_power(ONE, many - 1)
    ends = [integer_power(end, many) for end in interval]
    low = min(ends)
    if many % 2 == 0 and interval[0] <= 0 <= interval[1]:
        low = 0
    return in_bounds(low // under, -(-max(ends) // under))


def grain_scaled(interval, ratio):
    number, under = ratio
    ends = [interval[0] * number, interval[1] * number]
    return in_bounds(min(ends) // under, -(-max(ends) // under))


def grain_hull(one, other):
    return (min(one[0], other[0]), max(one[1], other[1]))


def grain_meet(one, other):
    """The numbers in both, None if there are none."""
    low = max(one[0], other[0])
    high = min(one[1], other[1])
    if low > high:
        return None
    return (low, high)


def lies_within(one, other):
    return other[0] <= one[0] and one[1] <= other[1]


def middle_of(interval):
    return (interval[0] + interval[1]) // 2


def has_ratio(interval, ratio):
    """Whether the number lies from the one end to the other."""
    number = ratio[0] * ONE
    return interval[0] * ratio[1] <= number <= interval[1] * ratio[1]


def grain_products(firsts, seconds):
    """The sum, from (0, 0) on, of TIMES of the intervals of two lists, place by place.

    It is the very same as with grain_times and grain_plus; but of long series most of the time
    goes here.
    """
    low = 0
    high = 0
    for (a, b), (c, d) in zip(firsts, seconds):
        if a >= 0 and c >= 0:
            least = a * c
            greatest = b * d
        elif b <= 0 and d <= 0:
            least = b * d
            greatest = a * c
        else:
            ends = (a * c, a * d, b * c, b * d)
            least = min(ends)
            greatest = max(ends)
        down = least >> 40
        up = -(-greatest >> 40)
        low += down
        high += up
        if down < -MOST_GRAINS or up > MOST_GRAINS or low < -MOST_GRAINS or high > MOST_GRAINS:
            raise TooMany("grains", MOST_GRAINS)
    return (low, high)
