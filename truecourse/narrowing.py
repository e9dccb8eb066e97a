"""NARROWINGS: pieces are cut off a box at which a POLY's value is not within an interval."""

from truecourse.boxes import is_box, with_interval
from truecourse.errors import InvalidRoom, TooMany
from truecourse.grains import grain_meet
from truecourse.intervals import check_interval, is_interval
from truecourse.kinds import is_from_to
from truecourse.polys import check_poly, is_some_poly
from truecourse.ranges import best_on, check_box_for
from truecourse.terms import letters_in

MOST_CUTS = 60
# How closely the place of a cut is looked for, and how much of a letter's interval must be cut
# off for all others to be tried again.
_HALVINGS = 12
_LEAST_PART = 16


def misses_on(poly, box, interval):
    return grain_meet(best_on(poly, box), interval) is None


def misses(poly, box, interval):
    check_poly(poly)
    check_box_for(poly, box)
    check_interval(interval)
    return misses_on(poly, box, interval)


def _pieces(box, cut):
    """What a cut cuts off, and what it leaves."""
    position, side, at = cut
    low, high = box[position]
    below = with_interval(box, position, (low, at))
    above = with_interval(box, position, (at, high))
    return (below, above) if side == "low" else (above, below)


def _is_cut(value, box):
    if not isinstance(value, tuple) or len(value) != 3:
        return False
    position, side, at = value
    if not is_from_to(position, 0, len(box) - 1) or not isinstance(side, str):
        return False
    return (side == "low" or side == "high") and is_from_to(at, box[position][0], box[position][1])


def _box_left(poly, interval, box, cuts):
    """The box that any values leave as cuts, None if one of them is none, or cuts off too much."""
    for cut in cuts:
        if not _is_cut(cut, box):
            return None
        gone, box = _pieces(box, cut)
        if not misses_on(poly, gone, interval):
            return None
    return box


def _is_form(value):
    """Whether any value is a narrowing, whatever its cuts do."""
    if not isinstance(value, tuple) or len(value) != 6:
        return False
    word, poly, interval, box, cuts, behind = value
    if not isinstance(word, str) or word != "narrowing":
        return False
    if not is_some_poly(poly) or not is_interval(interval) or not is_box(box) or not is_box(behind):
        return False
    if poly and letters_in(poly) != len(box):
        return False
    return isinstance(cuts, tuple) and len(cuts) <= MOST_CUTS


def is_narrowing(value):
    if not _is_form(value):
        return False
    _, poly, interval, box, cuts, behind = value
    try:
        return _box_left(poly, interval, box, cuts) == behind
    except TooMany:
        return False


def _is_free_of(poly, interval, box, cut):
    """Whether what a cut cuts off may go."""
    gone, _ = _pieces(box, cut)
    return misses_on(poly, gone, interval)


def _cut_place(poly, interval, box, position, side):
    """How far may be cut off at a side, None if nothing may."""
    low, high = box[position]
    begin, far = (low, high) if side == "low" else (high, low)
    if low == high or not _is_free_of(poly, interval, box, (position, side, begin)):
        return None
    if _is_free_of(poly, interval, box, (position, side, far)):
        return far
    near = begin
    for _ in range(_HALVINGS):
        at = (near + far) // 2
        if _is_free_of(poly, interval, box, (position, side, at)):
            near = at
        else:
            far = at
    return None if near == begin else near


def _cut_round(poly, interval, box, room):
    """One cut at each side at which something may be cut off, so many at most.

    The tuple (cuts, box left, whether it may be worth the while to go round once more).
    """
    cuts = []
    is_worth = False
    for position in range(len(box)):
        for side in ("low", "high"):
            if len(cuts) == room:
                return (cuts, box, False)
            at = _cut_place(poly, interval, box, position, side)
            if at is not None:
                low, high = box[position]
                cuts.append((position, side, at))
                _, box = _pieces(box, cuts[-1])
                left = box[position][1] - box[position][0]
                is_worth = is_worth or (high - low - left) * _LEAST_PART >= high - low
    return (cuts, box, is_worth)


def found_narrowing(poly, interval, box, room):
    """A narrowing of at most so many cuts, of values that are known to be right."""
    found = []
    left = box
    is_worth = room > 0
    while is_worth:
        cuts, left, is_worth = _cut_round(poly, interval, left, room - len(found))
        found.extend(cuts)
    return ("narrowing", poly, interval, box, tuple(found), left)


def check_sixty(room):
    if not is_from_to(room, 0, MOST_CUTS):
        raise InvalidRoom(room)


def narrowed(poly, interval, box, room):
    check_poly(poly)
    check_interval(interval)
    check_box_for(poly, box)
    check_sixty(room)
    return found_narrowing(poly, interval, box, room)
