"""How courses of machines are followed: stays and switches, piece by piece."""

from truecourse.choosing import carried_with
from truecourse.errors import TooMany
from truecourse.held import found_held, holds_courses, trial_box
from truecourse.lags import late_on
from truecourse.machines import positions_from
from truecourse.narrowing import found_narrowing
from truecourse.pieces import Traffic, narrowed_box
from truecourse.runners import room_for, word_without_paper
from truecourse.runs import end_of
from truecourse.sets import set_from_box
from truecourse.steps import paper_with

_CUTS = 24
_ZERO = (0, 0)
# A stay goes ahead of a switch while its step isn't so much shorter than that of the switch.
_MUCH_SHORTER = 16
# How often the step of a switch is made shorter yet, when halves of it are too short.
_SHORTENINGS = 3


class Trip:
    """How far courses were followed: finished pieces, and the papers of the stay at hand."""

    def __init__(self, mode, box):
        self.mode = mode
        self.spot = box
        self.origin = box
        self.finished = []
        self.chain = []
        self.used = 0
        self.passed = 0
        # A trip that stands where a switch could have been told, and this switch.
        self.put_off = None

    def put_stay(self, paper):
        self.chain.append(paper)
        self.spot = end_of(paper)
        self.used += 1
        self.passed = self.passed + paper[2]

    def put_switch(self, system, switch):
        """A switch goes behind, the system being that of the mode ahead of it."""
        piece, mode, late = switch
        self.finished = self.pieces_so_far(system) + [piece]
        self.chain = []
        self.mode = mode
        self.spot = late
        self.origin = late
        self.used += 1
        self.passed = self.passed + piece[2][2]
        self.put_off = None

    def pieces_so_far(self, system):
        if not self.chain:
            return list(self.finished)
        return self.finished + [("stay", ("run", system, self.origin, tuple(self.chain)))]

    def twin(self):
        other = Trip(self.mode, self.origin)
        other.spot = self.spot
        other.finished = list(self.finished)
        other.chain = list(self.chain)
        other.used = self.used
        other.passed = self.passed
        return other


def step_of(switch):
    return switch[0][2][2]


def _trial_if_held(polys, box, step):
    """The trial box, None if it doesn't hold the courses."""
    try:
        trial = trial_box(polys, box, step)
        return trial if holds_courses(polys, box, step, trial) else None
    except TooMany:
        return None


def _held_boxes(polys, box, step, room):
    """Boxes that hold the courses: one that is found, and the trial box."""
    if room == 0:
        return []
    tried = [found_held(polys, box, step, room), _trial_if_held(polys, box, step)]
    return [held for held in tried if held is not None]


class Search:
    """A machine and settings, and what may come behind where a trip has come to."""

    def __init__(self, machine, settings):
        self.machine = machine
        self.traffic = Traffic(machine)
        self.kind = settings[1]
        self.many = settings[2]
        self.settings = settings
        self.room = settings[7]

    def system_of(self, trip):
        return self.traffic.systems[trip.mode]

    def paper_held(self, trip, step, held):
        """A paper of the settings' kind with a held box, None if none can be made."""
        polys = self.system_of(trip)[2]
        try:
            if self.kind == "box":
                return paper_with(polys, trip.spot, step, self.many, held)
            source = trip.chain[-1][5] if trip.chain else set_from_box(trip.origin)
            return carried_with(polys, source, step, self.many, held)
        except TooMany:
            return None

    def is_all_free(self, mode, box, besides):
        try:
            return self.traffic.are_free(mode, box, besides)
        except TooMany:
            return False

    def stay_paper(self, trip, step, room):
        """A paper during whose step all ways are free, None if none is found."""
        for held in _held_boxes(self.system_of(trip)[2], trip.spot, step, room):
            if self.is_all_free(trip.mode, held, None):
                paper = self.paper_held(trip, step, held)
                if paper is not None:
                    return paper
        return None

    def longest_stay(self, trip, left):
        """The paper of a stay with the longest step for which one is found, None without one."""
        first, least = self.settings[3:5]
        step = min(first, left)
        shortest = min(least, left)
        while step > shortest:
            few = room_for(self.settings, step, trip.used, left)
            paper = self.stay_paper(trip, step, few)
            if paper is not None:
                return paper
            step = max(step // 2, shortest)
        return self.stay_paper(trip, step, self.room)

    def narrowing_of(self, guard, held):
        try:
            return found_narrowing(guard, _ZERO, held, _CUTS)
        except TooMany:
            return None

    def switch_caught(self, w, paper, narrowing):
        """The tuple (switch, mode, box behind), None if no box that catches is found."""
        _, _, _, target, _ = self.traffic.ways[w]
        polys = self.traffic.systems[target][2]
        begun = self.traffic.reset_on(w, narrowed_box(paper, narrowing))
        for caught in _held_boxes(polys, begun, paper[2], self.room):
            if self.is_all_free(target, caught, None):
                late = late_on(polys, begun, paper[2], self.many, caught)
                return (("switch", w, paper, narrowing, caught, self.many), target, late)
        return None

    def switch_narrowed(self, w, paper, narrowing):
        try:
            return self.switch_caught(w, paper, narrowing)
        except TooMany:
            return None

    def switch_by(self, trip, w, paper):
        """The switch with a step paper by a way, None if it isn't taken so."""
        try:
            if not self.traffic.is_crossed(w, paper):
                return None
        except TooMany:
            return None
        if not self.is_all_free(trip.mode, paper[4], w):
            return None
        narrowing = self.narrowing_of(self.traffic.ways[w][1], paper[4])
        found = None
        if narrowing is not None:
            found = self.switch_narrowed(w, paper, narrowing)
        return self.switch_narrowed(w, paper, None) if found is None else found

    def switch_in(self, trip, step):
        """A switch by a step and some way, None if none is found."""
        polys = self.system_of(trip)[2]
        for held in _held_boxes(polys, trip.spot, step, self.room):
            try:
                paper = paper_with(polys, trip.spot, step, self.many, held)
            except TooMany:
                continue
            for w in positions_from(self.machine, trip.mode):
                found = self.switch_by(trip, w, paper)
                if found is not None:
                    return found
        return None

    def halved_switch(self, trip, left, too_short):
        """The tuple (switch or None, a lesser step by which none is found), by halving steps."""
        first, least = self.settings[3:5]
        shortest = min(least, left)
        step = min(first, left)
        best = None
        while step > too_short:
            found = self.switch_in(trip, step)
            if found is None and best is not None:
                return (best, step)
            best = found
            if step == shortest:
                return (best, step)
            step = max(step // 2, shortest)
        return (best, too_short)

    def shortest_switch(self, trip, left, stay):
        """The switch by the shortest step, not so short as that of a stay, or None."""
        too_short = min(self.settings[4], left) - 1 if stay is None else stay[2]
        best, short = self.halved_switch(trip, left, too_short)
        if best is None:
            return None
        for _ in range(_SHORTENINGS):
            step = (short + step_of(best)) // 2
            found = self.switch_in(trip, step) if step > short else None
            if found is None:
                short = step
            else:
                best = found
        return best

    def end_at(self, trip, left):
        """The end where neither a stay nor a switch is found."""
        shortest = min(self.settings[4], left)
        polys = self.system_of(trip)[2]
        for held in _held_boxes(polys, trip.spot, shortest, self.room):
            if self.paper_held(trip, shortest, held) is not None:
                return ("perhaps",)
        word = word_without_paper(self.system_of(trip), trip.spot, shortest, self.room)
        return ("spent", word)

    def end_ahead(self, trip, left):
        """The end that is told without looking for anything, or None."""
        most, widest = self.settings[5:7]
        if left == 0:
            return ("whole",)
        if max([high - low for low, high in trip.spot]) > widest:
            return ("spent", "width")
        if trip.used >= most:
            return ("spent", "steps")
        return None

    def is_stay_better(self, trip, stay, switch):
        """Whether a switch is put off, since its step is likely to be shorter further on."""
        if trip.used + 1 == self.settings[5]:
            return False
        return stay[2] * _MUCH_SHORTER >= step_of(switch)


def _go_on(search, trip, left):
    """Puts one more step behind; the end where none is found, None otherwise."""
    stay = search.longest_stay(trip, left)
    switch = None
    # Where a stay goes on with the longest step no way is taken within it.
    if stay is None or stay[2] < min(search.settings[3], left):
        switch = search.shortest_switch(trip, left, stay)
    if switch is None and stay is None:
        return search.end_at(trip, left)
    if switch is None:
        trip.put_stay(stay)
    elif stay is not None and search.is_stay_better(trip, stay, switch):
        ahead = trip.twin()
        trip.put_stay(stay)
        trip.put_off = (ahead, switch)
    else:
        trip.put_switch(search.system_of(trip), switch)
    return None


def followed(machine, mode, box, time, settings):
    """The tuple (pieces, end), of values that are known to be right."""
    search = Search(machine, settings)
    trip = Trip(mode, box)
    while True:
        left = time - trip.passed
        end = search.end_ahead(trip, left)
        if end is None:
            end = _go_on(search, trip, left)
        if end is not None and trip.put_off is None:
            return (trip.pieces_so_far(search.system_of(trip)), end)
        if end is not None:
            # Without the switch that was put off it does not go on: so it is told after all.
            trip, switch = trip.put_off
            trip.put_switch(search.system_of(trip), switch)
