"""Corner numbers of POLYS over boxes, between which all values lie."""

from math import comb, factorial, lcm

from truecourse.errors import InvalidDegrees, InvalidNumbers, InvalidPart, InvalidPosition, TooMany
from truecourse.exact import ceiling_of, floor_of, integer_power, ratio_of
from truecourse.grains import ONE, in_bounds
from truecourse.kinds import is_count, is_from_to, is_listed, is_some_tuple
from truecourse.polys import check_poly
from truecourse.ranges import check_box_for
from truecourse.ratios import is_ratio

_MOST_CORNERS = 400


def _greatest_degrees(poly, letters):
    if not poly:
        return [0] * letters
    return [max([exponents[k] for exponents, _ in poly]) for k in range(letters)]


def _how_many(degrees):
    many = 1
    for degree in degrees:
        many = many * (degree + 1)
    return many


def _strides(degrees):
    """How far apart neighbours in each letter stand in a list that is sorted by tuples."""
    return [_how_many(degrees[k + 1:]) for k in range(len(degrees))]


def _row_starts(degrees, position):
    """The places of the first numbers of all rows in this letter."""
    stride = _strides(degrees)[position]
    length = degrees[position] + 1
    return [k for k in range(_how_many(degrees)) if k // stride % length == 0]


def _power_list(base, most):
    powers = [1]
    for _ in range(most):
        powers.append(powers[-1] * base)
    return powers


def _corner_weights(degree, interval):
    """What each power of one letter adds to each corner number, taken so often as told below.

    A power x ** e is, in the corner k, the middle of all products of e of the numbers
    that are degree - k times the low end and k times the high end. All is multiplied
    by ONE ** degree and by the factorial of the degree, so that it stays whole.
    """
    lows = _power_list(interval[0], degree)
    highs = _power_list(interval[1], degree)
    ones = _power_list(ONE, degree)
    weights = []
    for k in range(degree + 1):
        row = []
        for e in range(degree + 1):
            total = 0
            for j in range(max(0, e - degree + k), min(k, e) + 1):
                ways = comb(k, j) * comb(degree - k, e - j)
                total = total + ways * highs[j] * lows[e - j]
            row.append(total * ones[degree - e] * factorial(e) * factorial(degree - e))
        weights.append(row)
    return weights


def _weighed(numbers, degrees, position, weights):
    """All rows in one letter led by its weights."""
    stride = _strides(degrees)[position]
    length = degrees[position] + 1
    result = list(numbers)
    for begin in _row_starts(degrees, position):
        row = [numbers[begin + e * stride] for e in range(length)]
        for k in range(length):
            result[begin + k * stride] = sum([w * part for w, part in zip(weights[k], row)])
    return result


def has_few_corners(poly, letters):
    """Whether a POLY in so many letters has no more corner numbers than may be asked for."""
    return _how_many(_greatest_degrees(poly, letters)) <= _MOST_CORNERS


def corners_of(poly, box):
    """The corner numbers of a POLY over a box, both known to be such."""
    degrees = _greatest_degrees(poly, len(box))
    if _how_many(degrees) > _MOST_CORNERS:
        raise TooMany("corners", _MOST_CORNERS)
    strides = _strides(degrees)
    under = 1
    for _, ratio in poly:
        under = lcm(under, ratio[1])
    numbers = [0] * _how_many(degrees)
    for exponents, ratio in poly:
        place = sum([e * stride for e, stride in zip(exponents, strides)])
        numbers[place] = ratio[0] * (under // ratio[1])
    for position, degree in enumerate(degrees):
        weights = _corner_weights(degree, box[position])
        numbers = _weighed(numbers, degrees, position, weights)
        under = under * integer_power(ONE, degree) * factorial(degree)
    return [ratio_of(number, under) for number in numbers]


def corner_numbers(poly, box):
    check_poly(poly)
    check_box_for(poly, box)
    return corners_of(poly, box)


def corner_range_on(poly, box):
    """The least interval that has all corner numbers of a POLY that is known to be one."""
    numbers = corners_of(poly, box)
    lows = [floor_of(number, ONE) for number in numbers]
    highs = [ceiling_of(number, ONE) for number in numbers]
    return in_bounds(min(lows), max(highs))


def corner_range(poly, box):
    check_poly(poly)
    check_box_for(poly, box)
    return corner_range_on(poly, box)


def _are_degrees(value):
    if not is_some_tuple(value) or not all(is_count(part) for part in value):
        return False
    return _how_many(value) <= _MOST_CORNERS


def _check_corners(numbers, degrees, position, part):
    if not _are_degrees(degrees):
        raise InvalidDegrees(degrees)
    if not is_listed(numbers) or len(numbers) != _how_many(degrees):
        raise InvalidNumbers(numbers)
    if not all(is_ratio(number) for number in numbers):
        raise InvalidNumbers(numbers)
    if not is_from_to(position, 0, len(degrees) - 1):
        raise InvalidPosition(position)
    if not is_ratio(part) or not 0 < part[0] < part[1]:
        raise InvalidPart(part)


def _split_row(row, part):
    """The rows of both pieces, of a row of RATIOS.

    All numbers of one round are kept over the same number below: so no common divisors
    have to be looked for on the way.
    """
    under = 1
    for ratio in row:
        under = lcm(under, ratio[1])
    current = [ratio[0] * (under // ratio[1]) for ratio in row]
    firsts = [ratio_of(current[0], under)]
    lasts = [ratio_of(current[-1], under)]
    rest = part[1] - part[0]
    while len(current) > 1:
        current = [
            rest * current[k] + part[0] * current[k + 1] for k in range(len(current) - 1)]
        under = under * part[1]
        firsts.append(ratio_of(current[0], under))
        lasts.append(ratio_of(current[-1], under))
    return (firsts, lasts[::-1])


def split_corners(numbers, degrees, position, part):
    _check_corners(numbers, degrees, position, part)
    stride = _strides(degrees)[position]
    length = degrees[position] + 1
    first = list(numbers)
    second = list(numbers)
    for begin in _row_starts(degrees, position):
        row = [numbers[begin + k * stride] for k in range(length)]
        lows, highs = _split_row(row, part)
        for k in range(length):
            first[begin + k * stride] = lows[k]
            second[begin + k * stride] = highs[k]
    return (first, second)
