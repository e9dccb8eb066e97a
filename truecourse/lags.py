"""Ways that courses take within a step, each at its own time: signs, resets, late boxes."""

from truecourse.boxes import check_box, check_box_of, is_box
from truecourse.checks import check_order
from truecourse.errors import InvalidPoly, InvalidPolys, InvalidWord, NotHeld, TooMany
from truecourse.held import check_start, holds_courses
from truecourse.kinds import is_some_tuple
from truecourse.machines import are_polys_in, is_way_word
from truecourse.polys import are_terms, check_poly_in, check_system, is_some_poly
from truecourse.ranges import best_on, word_of
from truecourse.steps import check_paper, met_sums
from truecourse.terms import letters_in, terms_flow

# The sign that shows by the guard's slope that a way isn't taken, and the signs ahead, behind.
_AGAINST = {"up": "below", "down": "above"}


def sign_on_box(poly, box):
    """The sign of a POLY that is known to be one."""
    return word_of(best_on(poly, box))


def sign_there(poly, box):
    if not (are_terms(len(box), poly) if is_box(box) else is_some_poly(poly)):
        raise InvalidPoly(poly)
    check_box(box)
    return sign_on_box(poly, box)


def is_free_on(guard, slope, word, box):
    """Whether a way with this guard, whose slope along the flow is known, is free on a box."""
    return sign_on_box(guard, box) is not None or sign_on_box(slope, box) == _AGAINST[word]


def is_free(system, guard, word, box):
    check_system(system)
    check_poly_in(len(system[1]), guard)
    if not is_way_word(word):
        raise InvalidWord(word)
    check_box_of(len(system[1]), box)
    return is_free_on(guard, terms_flow(system[2], guard), word, box)


def word_crossed(guard, slope, paper):
    """As what a step paper that is taken crosses a guard, None if it doesn't."""
    _, begin, _, _, held, end = paper
    signs = (sign_on_box(guard, begin), sign_on_box(guard, end))
    if signs == ("below", "above") and sign_on_box(slope, held) == "above":
        return "up"
    if signs == ("above", "below") and sign_on_box(slope, held) == "below":
        return "down"
    return None


def crosses(system, paper, guard):
    check_system(system)
    check_paper(system, paper)
    check_poly_in(len(system[1]), guard)
    return word_crossed(guard, terms_flow(system[2], guard), paper)


def ranges_on(polys, box):
    """The box of the best ranges of some polys."""
    return tuple([best_on(poly, box) for poly in polys])


def _are_alike(value):
    """Whether any value is a tuple of polys, all in some one number of letters."""
    if not isinstance(value, tuple) or not all(is_some_poly(part) for part in value):
        return False
    shown = [letters_in(part) for part in value if part]
    return all(many == shown[0] for many in shown)


def reset_box(resets, box):
    are_right = are_polys_in(len(box), resets) if is_box(box) else _are_alike(resets)
    if not is_some_tuple(resets) or not are_right:
        raise InvalidPolys(resets)
    check_box(box)
    return ranges_on(resets, box)


def is_held_on(polys, box, step, held):
    """Whether a box holds the courses; not where this would need too many grains."""
    try:
        return holds_courses(polys, box, step, held)
    except TooMany:
        return False


def late_on(polys, box, step, many, held):
    """The late box of courses that begin at any times of the step, held holding them."""
    return met_sums(polys, box, many, held, (0, step))


def late_box(system, box, step, many, held):
    check_start(system, box, step)
    check_order(many)
    check_box_of(len(system[1]), held)
    if not is_held_on(system[2], box, step, held):
        raise NotHeld()
    return late_on(system[2], box, step, many, held)
