"""Runs that are made: they go on paper by paper until they are whole, or some room is spent."""

from truecourse.boxes import check_box_of
from truecourse.checks import MOST_TIME, check_time
from truecourse.choosing import found_carried
from truecourse.errors import InvalidTime, TooMany
from truecourse.held import holds_courses, trial_box
from truecourse.polys import check_system
from truecourse.runs import end_of, time_of
from truecourse.sets import set_from_box
from truecourse.settings import check_settings
from truecourse.steps import found_paper

# A held box that is found only after long widening is wide, and so is the step's end: as long
# as the step may be made shorter, that is better.
_ROOM_OF_LONG_STEPS = 3


def _box_come_to(start, papers):
    return end_of(papers[-1]) if papers else start


def _paper_behind(system, start, papers, settings, step, room):
    """One more paper with this step, None if none is found."""
    kind, many = settings[1:3]
    if kind == "box":
        return found_paper(system[2], _box_come_to(start, papers), step, many, room)
    source = papers[-1][5] if papers else set_from_box(start)
    return found_carried(system, source, step, many, room)


def word_without_paper(system, box, step, room):
    """The word for a box from which no paper was found even with the shortest step."""
    if room == 0:
        return "step"
    polys = system[2]
    try:
        is_held = holds_courses(polys, box, step, trial_box(polys, box, step))
    except TooMany:
        return "grains"
    return "grains" if is_held else "step"


def room_for(settings, step, papers, left):
    """How much room a step gets that may be made shorter."""
    most, room = settings[5], settings[7]
    if step * (most - papers) <= left:
        # With shorter steps there would not be enough papers for the time left.
        return room
    return min(room, _ROOM_OF_LONG_STEPS)


def _next_paper(system, start, papers, settings, left):
    """The tuple (paper, None), or (None, word) if the run is spent; left is the time left.

    Steps are tried from the longest one down to the shortest one.
    """
    _, _, _, first, least, most, widest, room = settings
    box = _box_come_to(start, papers)
    if max([high - low for low, high in box]) > widest:
        return (None, "width")
    if len(papers) >= most:
        return (None, "steps")
    step = min(first, left)
    shortest = min(least, left)
    while step > shortest:
        few = room_for(settings, step, len(papers), left)
        paper = _paper_behind(system, start, papers, settings, step, few)
        if paper is not None:
            return (paper, None)
        step = max(step // 2, shortest)
    paper = _paper_behind(system, start, papers, settings, step, room)
    if paper is not None:
        return (paper, None)
    return (None, word_without_paper(system, box, step, room))


def _gone_on(system, start, papers, settings, time):
    """All papers up to the time, and None, or those up to where it is spent, and the word."""
    found = list(papers)
    left = time - time_of(found)
    while left > 0:
        paper, word = _next_paper(system, start, found, settings, left)
        if word is not None:
            return (found, word)
        found.append(paper)
        left = left - paper[2]
    return (found, None)


def _check_begin(system, box):
    check_system(system)
    check_box_of(len(system[1]), box)


def run_to(system, box, time, settings):
    """What is told of values that are known to be right."""
    papers, word = _gone_on(system, box, [], settings, time)
    told = ("run", system, box, tuple(papers))
    if word is None:
        return ("whole", told)
    return ("spent", told, word)


def run(system, box, time, settings):
    _check_begin(system, box)
    check_time(time, MOST_TIME)
    check_settings(settings)
    return run_to(system, box, time, settings)


class Runner:
    """A run that goes on, and back, step by step."""

    def __init__(self, system, box, settings):
        _check_begin(system, box)
        check_settings(settings)
        self._system = system
        self._start = box
        self._settings = settings
        self._papers = []

    @property
    def time(self):
        return time_of(self._papers)

    def step(self):
        left = self._settings[3]
        paper, word = _next_paper(self._system, self._start, self._papers, self._settings, left)
        if word is None:
            self._papers.append(paper)
        return word

    def go(self, time):
        check_time(time, MOST_TIME)
        if time < self.time:
            raise InvalidTime(time)
        papers, word = _gone_on(self._system, self._start, self._papers, self._settings, time)
        self._papers = papers
        return "whole" if word is None else word

    def back_to(self, time):
        check_time(time, MOST_TIME)
        while self.time > time:
            self._papers.pop()
        return self.time

    def papers(self):
        return list(self._papers)

    def box(self):
        return _box_come_to(self._start, self._papers)

    def told(self):
        return ("run", self._system, self._start, tuple(self._papers))

    def twin(self):
        other = Runner(self._system, self._start, self._settings)
        other._papers = list(self._papers)
        return other
