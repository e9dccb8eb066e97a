"""The plain series: coefficients along courses as POLYS in the letters."""

from truecourse.errors import InvalidMany, TooMany
from truecourse.kinds import is_from_to
from truecourse.polys import check_system
from truecourse.terms import letter_poly, terms_flow, terms_scaled

_MOST_MANY = 9
_MOST_TERMS = 400


def check_coefficients(many):
    if not is_from_to(many, 1, _MOST_MANY):
        raise InvalidMany(many)


def _few(poly):
    if len(poly) > _MOST_TERMS:
        raise TooMany("terms", _MOST_TERMS)
    return poly


def plain_series(system, many):
    check_system(system)
    check_coefficients(many)
    polys = system[2]
    rows = [[letter_poly(position, len(polys))] for position in range(len(polys))]
    for k in range(many - 1):
        for position in range(len(polys)):
            flow = terms_flow(polys, rows[position][k])
            rows[position].append(_few(terms_scaled(flow, (1, k + 1))))
    return rows
