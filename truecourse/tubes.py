"""TUBES: rows of boxes in which all courses of a run go along."""

from truecourse.boxes import check_box_of
from truecourse.errors import InvalidMany
from truecourse.held import is_box_within
from truecourse.kinds import is_from_to
from truecourse.runs import box_told_between, check_run, time_of

_MOST_BOXES = 64


def _check_boxes(many):
    if not is_from_to(many, 1, _MOST_BOXES):
        raise InvalidMany(many)


def _tube(run, many):
    end = time_of(run[3])
    times = [j * end // many for j in range(many + 1)]
    return [box_told_between(run, times[j], times[j + 1]) for j in range(many)]


def tube(run, many):
    check_run(run)
    _check_boxes(many)
    return _tube(run, many)


def tube_hull(run):
    check_run(run)
    return box_told_between(run, 0, time_of(run[3]))


def lies_in(run, many, box):
    check_run(run)
    _check_boxes(many)
    check_box_of(len(run[2]), box)
    return all([is_box_within(part, box) for part in _tube(run, many)])
