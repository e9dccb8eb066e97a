"""STEP PAPERS: a box that holds the courses during a step, and where they come to at its end."""

from truecourse.boxes import check_box_of, is_box
from truecourse.checks import check_order, check_room, is_order, is_step_length
from truecourse.errors import InvalidPaper, NotHeld, TooMany
from truecourse.grains import grain_meet
from truecourse.held import check_start, found_held, holds_courses, is_box_within
from truecourse.polys import check_system
from truecourse.series import grain_series, grain_sum


def rows_of_step(polys, box, many, held):
    """The coefficients that are summed, of each letter: those from the box, the last on held."""
    near = grain_series(polys, box, many)
    far = grain_series(polys, held, many + 1)
    return [row + rest[-1:] for row, rest in zip(near, far)]


def sums_at(polys, box, many, held, times):
    """What the courses come to at these times of a step, not yet met with the held box."""
    return [grain_sum(row, times) for row in rows_of_step(polys, box, many, held)]


def met_rows(rows, held, times):
    """Rows of coefficients summed, and met with the held box.

    It must hold the courses: else a meet may be None.
    """
    return tuple([grain_meet(grain_sum(row, times), own) for row, own in zip(rows, held)])


def met_sums(polys, box, many, held, times):
    """What the courses come to at these times of a step."""
    return met_rows(rows_of_step(polys, box, many, held), held, times)


def is_step_form(value):
    """Whether any value is a step paper of some number of letters, taken or not."""
    if not isinstance(value, tuple) or len(value) != 6:
        return False
    word, box, step, many, held, end = value
    if not isinstance(word, str) or word != "step":
        return False
    if not is_step_length(step) or not is_order(many):
        return False
    if not all(is_box(part) for part in (box, held, end)):
        return False
    return len(box) == len(held) == len(end)


def is_taken(system, value):
    """Whether any value is a step paper, of a system that is known to be one, that is taken."""
    if not is_step_form(value) or len(value[1]) != len(system[1]):
        return False
    _, box, step, many, held, end = value
    try:
        if not holds_courses(system[2], box, step, held):
            return False
        return is_box_within(met_sums(system[2], box, many, held, (step, step)), end)
    except TooMany:
        return False


def is_step(system, value):
    check_system(system)
    return is_taken(system, value)


def check_paper(system, paper):
    if not is_taken(system, paper):
        raise InvalidPaper(paper)


def paper_with(polys, box, step, many, held):
    """The step paper with a box that holds the courses."""
    end = met_sums(polys, box, many, held, (step, step))
    return ("step", box, step, many, held, end)


def found_paper(polys, box, step, many, room):
    """A step paper that is taken, None if none is found."""
    held = found_held(polys, box, step, room)
    if held is None:
        return None
    try:
        return paper_with(polys, box, step, many, held)
    except TooMany:
        return None


def end_box(system, box, step, many, held):
    check_start(system, box, step)
    check_order(many)
    check_box_of(len(system[1]), held)
    polys = system[2]
    is_held = holds_courses(polys, box, step, held)
    end = met_sums(polys, box, many, held, (step, step))
    if not is_held:
        raise NotHeld()
    return end


def step_paper(system, box, step, many, room):
    check_start(system, box, step)
    check_order(many)
    check_room(room)
    return found_paper(system[2], box, step, many, room)
