"""Boxes that HOLD the courses from a box during a step."""

from truecourse.boxes import check_box_of
from truecourse.checks import check_room, check_step
from truecourse.errors import TooMany
from truecourse.grains import (
    grain_hull, grain_plus, grain_times, in_bounds, lies_within)
from truecourse.polys import check_system
from truecourse.ranges import plain_on

# A held box is made narrower so often: what it needs, itself, holds the courses, too.
_NARROWINGS = 2


def needed_for(polys, box, step, held):
    """What has to lie within a held box, of values that are known to be such."""
    found = []
    for interval, poly in zip(box, polys):
        found.append(grain_plus(interval, grain_times((0, step), plain_on(poly, held))))
    return tuple(found)


def is_box_within(box, other):
    return all([lies_within(one, whole) for one, whole in zip(box, other)])


def holds_courses(polys, box, step, held):
    return is_box_within(needed_for(polys, box, step, held), held)


def trial_box(polys, box, step):
    """One grain more, on both sides, than twice the way at the slopes of the start."""
    found = []
    for interval, moved in zip(box, needed_for(polys, box, 2 * step, box)):
        low, high = grain_hull(interval, moved)
        found.append(in_bounds(low - 1, high + 1))
    return tuple(found)


def _widened(box, held, needed):
    """A box around both, with some more on each side that goes beyond the one held so far."""
    found = []
    for interval, one, other in zip(box, held, needed):
        low, high = grain_hull(one, other)
        more = (high - low - (interval[1] - interval[0])) // 4 + 1
        found.append(in_bounds(
            low - more if low < one[0] else low, high + more if high > one[1] else high))
    return tuple(found)


def narrowed(polys, box, step, held):
    """A box within a held one that holds the courses as well."""
    for _ in range(_NARROWINGS):
        held = needed_for(polys, box, step, held)
    return held


def _searched(polys, box, step, room):
    held = trial_box(polys, box, step)
    for _ in range(room):
        needed = needed_for(polys, box, step, held)
        if is_box_within(needed, held):
            return narrowed(polys, box, step, held)
        held = _widened(box, held, needed)
    return None


def found_held(polys, box, step, room):
    """A held box, None if none was found with so much room, or it would need too many grains."""
    try:
        return _searched(polys, box, step, room)
    except TooMany:
        return None


def check_start(system, box, step):
    """What all functions about a step begin with."""
    check_system(system)
    check_box_of(len(system[1]), box)
    check_step(step)


def stays(system, box, step, held):
    check_start(system, box, step)
    check_box_of(len(system[1]), held)
    return holds_courses(system[2], box, step, held)


def needed_box(system, box, step, held):
    check_start(system, box, step)
    check_box_of(len(system[1]), held)
    return needed_for(system[2], box, step, held)


def held_box(system, box, step, room):
    check_start(system, box, step)
    check_room(room)
    return found_held(system[2], box, step, room)
