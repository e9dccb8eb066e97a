"""Where the courses are within a step, and steps cut in two."""

from truecourse.checks import check_room, check_times
from truecourse.errors import InvalidTime, TooMany
from truecourse.held import found_held, holds_courses, narrowed
from truecourse.kinds import is_from_to
from truecourse.polys import check_system
from truecourse.steps import check_paper, met_sums, paper_with


def during_on(system, paper, early, late):
    """The box at these times of a step whose paper is known to be taken."""
    _, box, _, many, held, _ = paper
    return met_sums(system[2], box, many, held, (early, late))


def during_box(system, paper, early, late):
    check_system(system)
    check_paper(system, paper)
    check_times(early, late, paper[2])
    return during_on(system, paper, early, late)


def _held_behind(polys, held, box, step, room):
    """A box that holds the courses from a box within a held one, for a shorter step."""
    if holds_courses(polys, box, step, held):
        return narrowed(polys, box, step, held)
    return found_held(polys, box, step, room)


def _cut(system, paper, time, room):
    _, box, step, many, held, _ = paper
    polys = system[2]
    between = during_on(system, paper, time, time)
    other = _held_behind(polys, held, between, step - time, room)
    if other is None:
        return None
    first = ("step", box, time, many, held, between)
    return [first, paper_with(polys, between, step - time, many, other)]


def cut_step(system, paper, time, room):
    check_system(system)
    check_paper(system, paper)
    if not is_from_to(time, 1, paper[2] - 1):
        raise InvalidTime(time)
    check_room(room)
    try:
        return _cut(system, paper, time, room)
    except TooMany:
        return None
