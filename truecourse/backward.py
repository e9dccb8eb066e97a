"""Running back: from which starts courses may come to a target."""

from truecourse.boxes import check_box_of
from truecourse.checks import MOST_TIME, check_time
from truecourse.grids import cells_met, cells_of, check_counts_of
from truecourse.polys import check_system
from truecourse.runners import run_to
from truecourse.runs import box_told_at
from truecourse.settings import check_settings
from truecourse.tables import check_target
from truecourse.terms import terms_scaled

_BACK = (-1, 1)


def _turned_back(system):
    word, names, polys = system
    return (word, names, tuple([terms_scaled(poly, _BACK) for poly in polys]))


def back_system(system):
    check_system(system)
    return _turned_back(system)


def came_from(system, target, time, settings):
    check_system(system)
    check_target(system, target)
    check_time(time, MOST_TIME)
    check_settings(settings)
    return run_to(_turned_back(system), target, time, settings)


def may_lead(system, box, counts, target, time, settings):
    check_system(system)
    check_box_of(len(system[1]), box)
    check_counts_of(len(box), counts)
    check_target(system, target)
    check_time(time, MOST_TIME)
    check_settings(settings)
    told = run_to(_turned_back(system), target, time, settings)
    if told[0] == "spent":
        return cells_of(counts)
    return cells_met(box, counts, box_told_at(told[1], time))
