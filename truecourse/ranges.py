"""Ranges of POLYS over boxes."""

from truecourse.boxes import check_box, check_box_of
from truecourse.grains import (
    NOTHING, WHOLE, grain_around, grain_meet, grain_minus, grain_plus, grain_power, grain_scaled,
    grain_times, middle_of)
from truecourse.polys import check_poly
from truecourse.terms import by_first_letter, letters_in, terms_slope


def check_box_for(poly, box):
    if poly:
        check_box_of(letters_in(poly), box)
    else:
        check_box(box)


def plain_on(poly, box):
    """The PLAIN RANGE, its parts made in the very sequence of the fixed formula."""
    total = NOTHING
    for exponents, ratio in poly:
        product = WHOLE
        for many, interval in zip(exponents, box):
            if many > 0:
                product = grain_times(product, grain_power(interval, many))
        total = grain_plus(total, grain_scaled(product, ratio))
    return total


def nested_on(poly, box):
    if not poly:
        return NOTHING
    if not box:
        return grain_around(poly[0][1])
    parts = by_first_letter(poly)
    greatest = max(parts)
    total = nested_on(parts[greatest], box[1:])
    for k in range(greatest - 1, -1, -1):
        part = nested_on(parts.get(k, ()), box[1:])
        total = grain_plus(grain_times(total, box[0]), part)
    return total


def mean_on(poly, box):
    middles = [middle_of(interval) for interval in box]
    points = tuple([(middle, middle) for middle in middles])
    total = plain_on(poly, points)
    for position, interval in enumerate(box):
        steep = plain_on(terms_slope(poly, position), box)
        apart = grain_minus(interval, points[position])
        total = grain_plus(total, grain_times(steep, apart))
    return total


def best_on(poly, box):
    plain = plain_on(poly, box)
    nested = nested_on(poly, box)
    mean = mean_on(poly, box)
    # All three hold the values, so there is always something in the meets.
    return grain_meet(grain_meet(plain, nested), mean)


def word_of(interval):
    """Whether all numbers are above 0, or all below; None if neither is so."""
    low, high = interval
    if low > 0:
        return "above"
    if high < 0:
        return "below"
    return None


def _check_both(poly, box):
    check_poly(poly)
    check_box_for(poly, box)


def plain_range(poly, box):
    _check_both(poly, box)
    return plain_on(poly, box)


def nested_range(poly, box):
    _check_both(poly, box)
    return nested_on(poly, box)


def mean_range(poly, box):
    _check_both(poly, box)
    return mean_on(poly, box)


def best_range(poly, box):
    _check_both(poly, box)
    return best_on(poly, box)
