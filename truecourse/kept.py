"""POLYS whose value never changes along the courses of a system."""

from truecourse.boxes import check_box_of
from truecourse.errors import InvalidDegree, NotKept, TooMany
from truecourse.exact import NOUGHT, UNIT
from truecourse.kernels import rows_kernel
from truecourse.kinds import is_from_to
from truecourse.polys import check_poly_in, check_system
from truecourse.ranges import best_on
from truecourse.rows import unit_rows
from truecourse.terms import MOST_TERMS, terms_flow

_MOST_DEGREE = 4


def _is_kept(system, poly):
    return terms_flow(system[2], poly) == ()


def is_kept(system, poly):
    check_system(system)
    check_poly_in(len(system[1]), poly)
    return _is_kept(system, poly)


def _check_few(things):
    if len(things) > MOST_TERMS:
        raise TooMany("terms", MOST_TERMS)


def _exponents_to(letters, degree):
    """All exponents with a sum from 1 to the degree, sorted."""
    if letters == 0:
        return [()]
    found = []
    for first in range(degree + 1):
        found.extend([(first,) + rest for rest in _exponents_to(letters - 1, degree - first)])
    return found


def _flows(system, exponents):
    """Of each of some exponents a dict from those in its term's flow slope to their RATIOS."""
    return [dict(terms_flow(system[2], ((own, UNIT),))) for own in exponents]


def _kept_rows(flows, slopes):
    """The reduced rows of all sums of multiples of the flow slopes that are 0."""
    if not slopes:
        return unit_rows(len(flows))
    return rows_kernel([[flow.get(own, NOUGHT) for flow in flows] for own in slopes])


def kept_polys(system, degree):
    check_system(system)
    if not is_from_to(degree, 1, _MOST_DEGREE):
        raise InvalidDegree(degree)
    exponents = _exponents_to(len(system[1]), degree)[1:]
    _check_few(exponents)
    flows = _flows(system, exponents)
    slopes = {}
    for flow in flows:
        for own in flow.keys():
            slopes[own] = True
    _check_few(slopes)
    rows = _kept_rows(flows, list(slopes))
    return [
        tuple([(own, ratio) for own, ratio in zip(exponents, row) if ratio[0] != 0]) for row in rows]


def kept_range(system, poly, box):
    check_system(system)
    check_poly_in(len(system[1]), poly)
    check_box_of(len(system[1]), box)
    if not _is_kept(system, poly):
        raise NotKept()
    return best_on(poly, box)
