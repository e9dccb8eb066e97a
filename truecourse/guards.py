"""GUARDS: polys in a system's letters, and what is told of their crossings."""

from truecourse.boxes import check_box_of
from truecourse.carried import is_carried_taken
from truecourse.errors import InvalidPaper, TooMany
from truecourse.polys import are_terms, check_poly, check_poly_in, check_system
from truecourse.ranges import best_on, check_box_for, word_of
from truecourse.runs import begin_of, end_of
from truecourse.steps import is_taken
from truecourse.terms import limited, terms_flow

_PERHAPS = ("perhaps",)


def is_guard(system, value):
    check_system(system)
    return are_terms(len(system[1]), value)


def sign_if_told(poly, box):
    """The sign of a POLY that is known to be one, None too where a limit refuses its range."""
    try:
        return word_of(best_on(poly, box))
    except TooMany:
        return None


def sign_of(poly, box):
    check_poly(poly)
    check_box_for(poly, box)
    return sign_if_told(poly, box)


def slope_if_told(polys, guard):
    """The slope of a guard along the flow, None where a limit refuses it."""
    try:
        return limited(terms_flow(polys, guard))
    except TooMany:
        return None


def word_on(guard, slope, begin, held, last):
    """The word for a guard, and its slope or None, by the boxes at both ends and all along."""
    along = sign_if_told(guard, held)
    steep = None if slope is None else sign_if_told(slope, held)
    first = sign_if_told(guard, begin)
    final = sign_if_told(guard, last)
    for sign, other in (("above", "below"), ("below", "above")):
        # What rises stays above where it begins so, and was below where it ends so.
        if along == sign or (steep == sign and first == sign) or (steep == other and final == sign):
            return ("never", sign)
    if steep == "above" and first == "below" and final == "above":
        return ("once", "up")
    if steep == "below" and first == "above" and final == "below":
        return ("once", "down")
    return _PERHAPS


def word_for(system, guard, begin, held, last):
    check_system(system)
    letters = len(system[1])
    check_poly_in(letters, guard)
    for box in (begin, held, last):
        check_box_of(letters, box)
    return word_on(guard, slope_if_told(system[2], guard), begin, held, last)


def once(system, paper, guard):
    check_system(system)
    if not is_taken(system, paper) and not is_carried_taken(system, paper):
        raise InvalidPaper(paper)
    check_poly_in(len(system[1]), guard)
    slope = slope_if_told(system[2], guard)
    return word_on(guard, slope, begin_of(paper), paper[4], end_of(paper))
