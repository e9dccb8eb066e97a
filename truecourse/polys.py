"""POLYS and SYSTEMS: what they are, sums, products, slopes, values, putting in."""

from truecourse.boxes import check_point, check_point_of
from truecourse.errors import (
    InvalidMany, InvalidPoly, InvalidPolys, InvalidPosition, InvalidSystem,
    InvalidTerms, TooMany, UnlikeLetters)
from truecourse.kinds import MOST_LETTERS, is_count, is_from_to, is_listed
from truecourse.ratios import check_ratio, is_ratio
from truecourse.terms import (
    MOST_DEGREE, MOST_TERMS, constant_poly, gathered, is_put_too_high, letter_poly, letters_in,
    limited, terms_degree, terms_flow, terms_plus, terms_put, terms_scaled, terms_slope,
    terms_times, terms_value)

WORDS = ("letter", "slope", "given", "time", "to", "exp", "log", "sin", "cos", "root")
SMALL_LETTERS = "abcdefghijklmnopqrstuvwxyz"
NAME_CHARACTERS = "abcdefghijklmnopqrstuvwxyz0123456789"
_LONGEST_NAME = 12
_MOST_GIVEN_TERMS = 200


def is_name(value):
    if not isinstance(value, str) or not 1 <= len(value) <= _LONGEST_NAME:
        return False
    if value[0] not in SMALL_LETTERS or value in WORDS:
        return False
    return all(character in NAME_CHARACTERS for character in value)


def are_names(value):
    """Whether a list or a tuple has 1 to 8 unlike NAMES."""
    if not 1 <= len(value) <= MOST_LETTERS or not all(is_name(name) for name in value):
        return False
    return len(set(value)) == len(value)


def _are_exponents(many, value):
    if not isinstance(value, tuple) or len(value) != many:
        return False
    return all(is_count(part) for part in value) and sum(value) <= MOST_DEGREE


def _is_pair(many, value):
    """Whether a value is a term, its RATIO perhaps 0."""
    if not isinstance(value, tuple) or len(value) != 2:
        return False
    return _are_exponents(many, value[0]) and is_ratio(value[1])


def are_terms(many, value):
    """Whether any value is a POLY in so many letters, this number being a good one."""
    if not isinstance(value, tuple) or len(value) > MOST_TERMS:
        return False
    for term in value:
        if not _is_pair(many, term) or term[1][0] == 0:
            return False
    return all(value[k][0] < value[k + 1][0] for k in range(len(value) - 1))


def _letters_shown(value):
    """As many letters as the first exponents of any value show, 0 if they show none."""
    if not isinstance(value, tuple) or len(value) == 0:
        return 0
    first = value[0]
    if not isinstance(first, tuple) or len(first) == 0 or not isinstance(first[0], tuple):
        return 0
    return len(first[0])


def is_some_poly(value):
    """Whether any value is a POLY in some number of letters."""
    if isinstance(value, tuple) and len(value) == 0:
        return True
    many = _letters_shown(value)
    return 1 <= many <= MOST_LETTERS and are_terms(many, value)


def check_many(many):
    if not is_from_to(many, 1, MOST_LETTERS):
        raise InvalidMany(many)


def check_poly(poly):
    if not is_some_poly(poly):
        raise InvalidPoly(poly)


def check_poly_in(many, poly):
    if not are_terms(many, poly):
        raise InvalidPoly(poly)


def check_system(system):
    if not is_system(system):
        raise InvalidSystem(system)


def fits(one, other):
    return not one or not other or letters_in(one) == letters_in(other)


def _check_fitting(poly, other):
    check_poly(poly)
    check_poly(other)
    if not fits(poly, other):
        raise UnlikeLetters()


def is_poly(many, value):
    check_many(many)
    return are_terms(many, value)


def is_system(value):
    if not isinstance(value, tuple) or len(value) != 3:
        return False
    word, names, polys = value
    if not isinstance(word, str) or word != "system":
        return False
    if not isinstance(names, tuple) or not are_names(names):
        return False
    if not isinstance(polys, tuple) or len(polys) != len(names):
        return False
    return all(are_terms(len(names), poly) for poly in polys)


def poly_of(many, terms):
    check_many(many)
    if not is_listed(terms) or len(terms) > _MOST_GIVEN_TERMS:
        raise InvalidTerms(terms)
    if not all(_is_pair(many, term) for term in terms):
        raise InvalidTerms(terms)
    return limited(gathered(terms))


def degree(poly):
    check_poly(poly)
    return terms_degree(poly)


def poly_plus(poly, other):
    _check_fitting(poly, other)
    return limited(terms_plus(poly, other))


def poly_times(poly, other):
    _check_fitting(poly, other)
    return limited(terms_times(poly, other))


def poly_scaled(poly, ratio):
    check_poly(poly)
    check_ratio(ratio)
    return terms_scaled(poly, ratio)


def slope(poly, position):
    check_poly(poly)
    letters = letters_in(poly) if poly else MOST_LETTERS
    if not is_from_to(position, 0, letters - 1):
        raise InvalidPosition(position)
    return terms_slope(poly, position)


def _are_to_put(poly, value):
    """Whether any value is a list of POLYS that can be put into a POLY."""
    if not is_listed(value) or not 1 <= len(value) <= MOST_LETTERS:
        return False
    if poly and len(value) != letters_in(poly):
        return False
    if not all(is_some_poly(put) for put in value):
        return False
    letters = [letters_in(put) for put in value if put]
    return all(many == letters[0] for many in letters)


def put_polys(poly, polys):
    check_poly(poly)
    if not _are_to_put(poly, polys):
        raise InvalidPolys(polys)
    if is_put_too_high(poly, polys):
        raise TooMany("degree", MOST_DEGREE)
    letters = max([letters_in(put) for put in polys])
    if letters == 0:
        letters = len(polys)
    return limited(terms_put(poly, polys, letters))


def _check_point_for(poly, point):
    if poly:
        check_point_of(letters_in(poly), point)
    else:
        check_point(point)


def value_at(poly, point):
    check_poly(poly)
    _check_point_for(poly, point)
    return terms_value(poly, point)


def shifted(poly, point):
    check_poly(poly)
    _check_point_for(poly, point)
    letters = len(point)
    polys = [
        terms_plus(letter_poly(k, letters), constant_poly(ratio, letters))
        for k, ratio in enumerate(point)]
    return limited(terms_put(poly, polys, letters))


def flow_slope(system, poly):
    check_system(system)
    check_poly_in(len(system[1]), poly)
    return limited(terms_flow(system[2], poly))


def system_slope_at(system, point):
    check_system(system)
    check_point_of(len(system[1]), point)
    return tuple([terms_value(poly, point) for poly in system[2]])
