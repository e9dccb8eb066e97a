"""Reckoning with POLYS that are known to be such, whatever their degree and how many terms.

A TABLE is a dict from exponents to the RATIO of this term; those with 0 may stand in it.
"""

from truecourse.errors import TooMany
from truecourse.exact import NOUGHT, UNIT, ratio_plus, ratio_power, ratio_times

MOST_DEGREE = 8
MOST_TERMS = 60

# Points, without any meaning, at which few polys happen to be 0.
_TRIAL_POINTS = (
    ((3, 1), (5, 1), (-7, 1), (11, 1), (13, 1), (-17, 1), (19, 1), (23, 1)),
    ((2, 1), (-31, 1), (9, 1), (29, 1), (-4, 1), (37, 1), (6, 1), (-41, 1)),
)


def letters_in(poly):
    """How many letters a POLY has; 0 of (), which fits to any number."""
    if not poly:
        return 0
    return len(poly[0][0])


def add_term(table, exponents, ratio):
    if exponents in table:
        table[exponents] = ratio_plus(table[exponents], ratio)
    else:
        table[exponents] = ratio


def poly_of_table(table):
    pairs = sorted(table.items())
    return tuple([pair for pair in pairs if pair[1][0] != 0])


def gathered(pairs):
    """The POLY that is the sum of terms in any sequence."""
    table = {}
    for exponents, ratio in pairs:
        add_term(table, exponents, ratio)
    return poly_of_table(table)


def terms_plus(one, other):
    return gathered(one + other)


def terms_times(one, other):
    table = {}
    for exponents, ratio in one:
        for others, more in other:
            both = tuple([a + b for a, b in zip(exponents, others)])
            add_term(table, both, ratio_times(ratio, more))
    return poly_of_table(table)


def terms_scaled(poly, ratio):
    if ratio[0] == 0:
        return ()
    return tuple([(exponents, ratio_times(own, ratio)) for exponents, own in poly])


def constant_poly(ratio, letters):
    """The POLY that is a number everywhere."""
    if ratio[0] == 0:
        return ()
    return (((0,) * letters, ratio),)


def letter_poly(position, letters):
    """The POLY that is the letter at the position."""
    exponents = (0,) * position + (1,) + (0,) * (letters - position - 1)
    return ((exponents, UNIT),)


def terms_degree(poly):
    return max([sum(exponents) for exponents, _ in poly], default=0)


def terms_slope(poly, position):
    # The sequence of the terms that stay is the same one less.
    found = []
    for exponents, ratio in poly:
        many = exponents[position]
        if many > 0:
            lessened = exponents[:position] + (many - 1,) + exponents[position + 1:]
            found.append((lessened, ratio_times(ratio, (many, 1))))
    return tuple(found)


def terms_value(poly, point):
    total = NOUGHT
    for exponents, ratio in poly:
        for many, number in zip(exponents, point):
            if many > 0:
                ratio = ratio_times(ratio, ratio_power(number, many))
        total = ratio_plus(total, ratio)
    return total


def by_first_letter(poly):
    """For each exponent of the first letter what this power is multiplied by, in the others."""
    parts = {}
    for exponents, ratio in poly:
        parts.setdefault(exponents[0], []).append((exponents[1:], ratio))
    return parts


def terms_put(poly, polys, letters):
    """POLYS, all in so many letters, put for the letters of a POLY."""
    if not poly:
        return ()
    if not polys:
        return constant_poly(poly[0][1], letters)
    parts = by_first_letter(poly)
    total = ()
    for many in range(max(parts), -1, -1):
        total = terms_times(total, polys[0])
        part = terms_put(parts.get(many, ()), polys[1:], letters)
        total = terms_plus(total, part)
    return total


def terms_flow(polys, poly):
    """The slope of a POLY along the courses of the system of these polys."""
    total = ()
    for position, own in enumerate(polys):
        total = terms_plus(total, terms_times(terms_slope(poly, position), own))
    return total


def limited(poly):
    """A POLY that is told to the caller."""
    if terms_degree(poly) > MOST_DEGREE:
        raise TooMany("degree", MOST_DEGREE)
    if len(poly) > MOST_TERMS:
        raise TooMany("terms", MOST_TERMS)
    return poly


def _put_degree(exponents, polys):
    """The degree of a product of POLYS, -1 where one of them is 0."""
    total = 0
    for many, put in zip(exponents, polys):
        if many > 0 and not put:
            return -1
        total += many * terms_degree(put)
    return total


def _top(poly):
    """The terms of the greatest degree."""
    most = terms_degree(poly)
    return tuple([term for term in poly if sum(term[0]) == most])


def is_put_too_high(poly, polys):
    """Whether it is seen, without multiplying out, that the degree comes above the greatest.

    Multiplied out, POLYS of a high degree in many letters have millions of terms.
    """
    degrees = [_put_degree(exponents, polys) for exponents, _ in poly]
    most = max(degrees, default=0)
    if most <= MOST_DEGREE:
        return False
    highest = [term for term, own in zip(poly, degrees) if own == most]
    tops = [_top(put) for put in polys]
    for point in _TRIAL_POINTS:
        # What has this degree in the result is this value, unless it goes against itself.
        if terms_value(highest, [terms_value(top, point) for top in tops])[0] != 0:
            return True
    return False
