"""Nested forms of POLYS, letter within letter."""

from truecourse.boxes import check_point_of
from truecourse.errors import InvalidNested
from truecourse.exact import NOUGHT, ratio_plus, ratio_times
from truecourse.polys import are_terms, check_many, check_poly_in
from truecourse.ratios import is_ratio
from truecourse.terms import MOST_DEGREE, by_first_letter


def _nested(many, poly):
    if many == 0:
        return poly[0][1] if poly else NOUGHT
    parts = by_first_letter(poly)
    greatest = max(parts, default=0)
    return tuple([_nested(many - 1, parts.get(k, ())) for k in range(greatest + 1)])


def _flat(many, value, room):
    """The terms that a form tells, sorted, those with 0 too; None if it is no such form.

    The room is what the exponents may still come to. It keeps the walk short, whatever is asked.
    """
    if many == 0:
        return [((), value)] if is_ratio(value) else None
    if not isinstance(value, tuple) or not 1 <= len(value) <= room + 1:
        return None
    found = []
    for k, part in enumerate(value):
        inner = _flat(many - 1, part, room - k)
        if inner is None:
            return None
        found.extend([((k,) + exponents, ratio) for exponents, ratio in inner])
    return found


def _poly_told(many, value):
    """The POLY whose nested form any value is, None if it is none."""
    found = _flat(many, value, MOST_DEGREE)
    if found is None:
        return None
    poly = tuple([term for term in found if term[1][0] != 0])
    if not are_terms(many, poly) or _nested(many, poly) != value:
        return None
    return poly


def is_nested(many, value):
    check_many(many)
    return _poly_told(many, value) is not None


def nested_of(many, poly):
    check_many(many)
    check_poly_in(many, poly)
    return _nested(many, poly)


def poly_of_nested(many, nested):
    check_many(many)
    poly = _poly_told(many, nested)
    if poly is None:
        raise InvalidNested(nested)
    return poly


def _check_nested(many, nested):
    if _poly_told(many, nested) is None:
        raise InvalidNested(nested)


def _value(many, nested, point):
    if many == 0:
        return nested
    total = NOUGHT
    for part in nested[::-1]:
        inner = _value(many - 1, part, point[1:])
        total = ratio_plus(ratio_times(total, point[0]), inner)
    return total


def value_of_nested(many, nested, point):
    check_many(many)
    _check_nested(many, nested)
    check_point_of(many, point)
    return _value(many, nested, point)
