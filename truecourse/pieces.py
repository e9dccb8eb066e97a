"""PIECES of machines' courses: whether they fit one behind another, and where they lead."""

from truecourse.boxes import is_box
from truecourse.checks import is_order
from truecourse.errors import TooMany
from truecourse.held import holds_courses, is_box_within
from truecourse.kinds import is_count
from truecourse.lags import is_free_on, late_on, ranges_on, word_crossed
from truecourse.narrowing import is_narrowing
from truecourse.runs import end_of, is_run, time_of
from truecourse.steps import is_taken
from truecourse.terms import terms_flow

_ZERO = (0, 0)


class Traffic:
    """The ways of a machine, with what is asked of them again and again."""

    def __init__(self, machine):
        _, self.systems, self.ways = machine
        # Of each way the guard's slope along the flow of the mode that it is from.
        self.slopes = [terms_flow(self.systems[way[0]][2], way[1]) for way in self.ways]

    def are_free(self, mode, box, besides):
        """Whether all ways from a mode, besides one, are free on a box."""
        for w, (origin, guard, word, _, _) in enumerate(self.ways):
            if origin == mode and w != besides and not is_free_on(guard, self.slopes[w], word, box):
                return False
        return True

    def is_crossed(self, w, paper):
        """Whether a step paper that is taken crosses the guard of a way as its word tells."""
        return word_crossed(self.ways[w][1], self.slopes[w], paper) == self.ways[w][2]

    def reset_on(self, w, box):
        return ranges_on(self.ways[w][4], box)


def is_stay(piece):
    return piece[0] == "stay"


def time_of_piece(piece):
    return time_of(piece[1][3]) if is_stay(piece) else piece[2][2]


def narrowed_box(paper, narrowing):
    """The box in which courses are when they go over."""
    return paper[4] if narrowing is None else narrowing[5]


def late_box_of(traffic, piece, late):
    """The box of the mode gone over to, from 0 to a late time of a switch's step."""
    _, w, paper, narrowing, caught, many = piece
    polys = traffic.systems[traffic.ways[w][3]][2]
    begun = traffic.reset_on(w, narrowed_box(paper, narrowing))
    return late_on(polys, begun, late, many, caught)


def _fitting_stay(traffic, mode, box, run):
    """The mode and the box behind a stay, None if any value is no run that fits."""
    if not is_run(run) or len(run[3]) == 0 or run[1] != traffic.systems[mode]:
        return None
    if not is_box_within(box, run[2]):
        return None
    for paper in run[3]:
        if not traffic.are_free(mode, paper[4], None):
            return None
    return (mode, end_of(run[3][-1]))


def _is_narrowing_for(guard, held, value):
    if value is None:
        return True
    return is_narrowing(value) and value[1:4] == (guard, _ZERO, held)


def _is_crossing(traffic, mode, box, w, paper):
    """Whether any value is a step paper by which all courses from the box take the way."""
    if not is_taken(traffic.systems[mode], paper) or not is_box_within(box, paper[1]):
        return False
    return traffic.is_crossed(w, paper) and traffic.are_free(mode, paper[4], w)


def _fitting_switch(traffic, mode, box, piece):
    """The mode and the box behind a switch, None if it doesn't fit."""
    _, w, paper, narrowing, caught, many = piece
    if not is_count(w) or w >= len(traffic.ways) or traffic.ways[w][0] != mode:
        return None
    if not _is_crossing(traffic, mode, box, w, paper):
        return None
    _, guard, _, target, _ = traffic.ways[w]
    if not _is_narrowing_for(guard, paper[4], narrowing):
        return None
    system = traffic.systems[target]
    if not is_box(caught) or len(caught) != len(system[1]) or not is_order(many):
        return None
    begun = traffic.reset_on(w, narrowed_box(paper, narrowing))
    if not holds_courses(system[2], begun, paper[2], caught):
        return None
    if not traffic.are_free(target, caught, None):
        return None
    return (target, late_on(system[2], begun, paper[2], many, caught))


def _behind_piece(traffic, mode, box, value):
    if not isinstance(value, tuple) or len(value) == 0 or not isinstance(value[0], str):
        return None
    if value[0] == "stay" and len(value) == 2:
        return _fitting_stay(traffic, mode, box, value[1])
    if value[0] == "switch" and len(value) == 6:
        return _fitting_switch(traffic, mode, box, value)
    return None


def behind_piece(traffic, mode, box, value):
    """The mode and the box behind any value, from those ahead; None if it is no piece that fits."""
    try:
        return _behind_piece(traffic, mode, box, value)
    except TooMany:
        return None


def are_pieces(machine, mode, box, values):
    """Whether all of any values fit, one behind another."""
    traffic = Traffic(machine)
    for value in values:
        behind = behind_piece(traffic, mode, box, value)
        if behind is None:
            return False
        mode, box = behind
    return True
