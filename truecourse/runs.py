"""RUNS: papers of steps, chained, and the boxes that they tell for times."""

from truecourse.boxes import is_box
from truecourse.carried import carried_during_on, is_carried_taken
from truecourse.checks import check_times, check_time
from truecourse.during import during_on
from truecourse.errors import InvalidRun
from truecourse.grains import grain_hull
from truecourse.held import is_box_within
from truecourse.polys import is_system
from truecourse.sets import hull_of_set, set_from_box
from truecourse.settings import MOST_PAPERS
from truecourse.steps import is_taken


def is_set_paper(paper):
    """Of a paper that is taken whether it is a carried one."""
    return paper[0] == "carried"


def looks_carried(value):
    """Of any value whether it is a tuple that begins as a carried paper does."""
    if not isinstance(value, tuple) or len(value) == 0 or not isinstance(value[0], str):
        return False
    return value[0] == "carried"


def first_ahead(start, is_set):
    """What the first paper of a run must begin with."""
    return set_from_box(start) if is_set else start


def is_paper_behind(system, ahead, is_set, value):
    """Whether any value is a paper of the kind that is taken, chained to what stands ahead.

    This is the box, or the set, to which the paper ahead leads.
    """
    if is_set:
        return is_carried_taken(system, value) and value[1] == ahead
    return is_taken(system, value) and is_box_within(ahead, value[1])


def first_at_fault(system, start, values):
    """The position of the first of some values by which they are no papers of a run, or None."""
    is_set = len(values) > 0 and looks_carried(values[0])
    ahead = first_ahead(start, is_set)
    for k, value in enumerate(values):
        if not is_paper_behind(system, ahead, is_set, value):
            return k
        ahead = value[5]
    return None


def is_run_form(value):
    """Whether any value is a run, whatever its papers are."""
    if not isinstance(value, tuple) or len(value) != 4:
        return False
    word, system, start, papers = value
    if not isinstance(word, str) or word != "run" or not is_system(system):
        return False
    if not is_box(start) or len(start) != len(system[1]):
        return False
    return isinstance(papers, tuple) and len(papers) <= MOST_PAPERS


def is_run(value):
    return is_run_form(value) and first_at_fault(value[1], value[2], value[3]) is None


def check_run(run):
    if not is_run(run):
        raise InvalidRun(run)


def run_kinds(run):
    check_run(run)
    papers = run[3]
    if len(papers) == 0:
        return ["box", "set"]
    return ["set"] if is_set_paper(papers[0]) else ["box"]


def time_of(papers):
    """How long some papers last."""
    return sum([paper[2] for paper in papers])


def end_time(run):
    check_run(run)
    return time_of(run[3])


def begin_times(papers):
    """The times at which some papers begin, and that at which the last one ends."""
    times = [0]
    for paper in papers:
        times.append(times[-1] + paper[2])
    return times


def begins(run):
    check_run(run)
    return begin_times(run[3])


def begin_of(paper):
    """The box in which a paper begins."""
    if is_set_paper(paper):
        return hull_of_set(paper[1])
    return paper[1]


def end_of(paper):
    """The box in which a paper ends."""
    if is_set_paper(paper):
        return hull_of_set(paper[5])
    return paper[5]


def on_the_way(system, paper, early, late):
    """The box during these times of a paper's step."""
    if is_set_paper(paper):
        return carried_during_on(system, paper, early, late)
    return during_on(system, paper, early, late)


def box_told_at(run, time):
    """The box at a time of a run that is known to be one."""
    _, system, start, papers = run
    if time == 0:
        return start
    for begin, paper in zip(begin_times(papers), papers):
        if time == begin + paper[2]:
            return end_of(paper)
        if time < begin + paper[2]:
            return on_the_way(system, paper, time - begin, time - begin)
    return None


def _hull_of_boxes(boxes):
    hull = boxes[0]
    for box in boxes[1:]:
        hull = tuple([grain_hull(one, other) for one, other in zip(hull, box)])
    return hull


def box_told_between(run, early, late):
    """The box between two times of a run that is known to be one."""
    if early == late:
        return box_told_at(run, early)
    _, system, _, papers = run
    boxes = []
    for begin, paper in zip(begin_times(papers), papers):
        step = paper[2]
        if begin < late and early < begin + step:
            boxes.append(on_the_way(system, paper, max(early - begin, 0), min(late - begin, step)))
    return _hull_of_boxes(boxes)


def box_at(run, time):
    check_run(run)
    check_time(time, time_of(run[3]))
    return box_told_at(run, time)


def box_between(run, early, late):
    check_run(run)
    check_times(early, late, time_of(run[3]))
    return box_told_between(run, early, late)


def is_beginning(run, other):
    check_run(run)
    check_run(other)
    return run[:3] == other[:3] and run[3] == other[3][:len(run[3])]
