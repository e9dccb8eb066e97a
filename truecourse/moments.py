"""The boxes at many times of one step, whose series are made once for all of them."""

from truecourse.grains import grain_meet
from truecourse.runs import begin_of, end_of
from truecourse.steps import met_rows, rows_of_step


class Moments:
    """Times are counted from the step's begin. TooMany where a box would go beyond."""

    def __init__(self, system, paper):
        self.held = paper[4]
        self.length = paper[2]
        self.first = begin_of(paper)
        self._paper = paper
        self._rows = rows_of_step(system[2], self.first, paper[3], self.held)

    def during(self, early, late):
        return met_rows(self._rows, self.held, (early, late))

    def along(self, early, late):
        """The held box met with the box during these times."""
        during = self.during(early, late)
        return tuple([grain_meet(one, other) for one, other in zip(self.held, during)])

    def moment(self, time):
        """The box at a time, which at both ends of the step is the one that the paper tells."""
        if time == 0:
            return self.first
        if time == self.length:
            return end_of(self._paper)
        return self.during(time, time)
