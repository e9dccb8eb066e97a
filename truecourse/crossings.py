"""STRETCHES of runs: when courses cross a guard just once, not at all, or perhaps."""

from truecourse.checks import check_time
from truecourse.errors import InvalidRoom, InvalidStretches, InvalidTime, TooMany
from truecourse.guards import slope_if_told, word_on
from truecourse.kinds import is_count, is_from_to, is_integer, is_listed
from truecourse.moments import Moments
from truecourse.polys import check_poly_in
from truecourse.runs import begin_times, check_run, time_of

_MOST_ROOM = 6
_PERHAPS = ("perhaps",)
_SIGNS = {"up": ("below", "above"), "down": ("above", "below")}


class Watched:
    """A run and a guard, whose slope is worked out once."""

    def __init__(self, run, guard):
        _, self.system, _, self.chain = run
        self.begun = begin_times(self.chain)
        self.guard = guard
        self.slope = slope_if_told(self.system[2], guard)
        # The boxes of the steps looked at so far.
        self.known = {}

    def step_at(self, time):
        """The position of the step that begins at a time or ahead of it, and ends behind it."""
        k = 0
        while self.begun[k + 1] <= time:
            k += 1
        return k

    def end_of_step(self, time):
        """When the step ends that begins at a time or ahead of it."""
        return self.begun[self.step_at(time) + 1]

    def moments_of(self, k):
        if k not in self.known:
            self.known[k] = Moments(self.system, self.chain[k])
        return self.known[k]

    def word(self, early, late):
        """The word for the boxes of two times of one step."""
        k = self.step_at(early)
        moments = self.moments_of(k)
        first = early - self.begun[k]
        final = late - self.begun[k]
        return word_on(
            self.guard, self.slope, moments.moment(first), moments.along(first, final),
            moments.moment(final))

    def word_if_told(self, early, late):
        """The same, None where a box would go beyond."""
        try:
            return self.word(early, late)
        except TooMany:
            return None


def _stretch(word, early, late):
    return word[:1] + (early, late) + word[1:]


def _check_guarded(run, guard):
    check_run(run)
    check_poly_in(len(run[1][1]), guard)


def _check_room(room):
    if not is_from_to(room, 0, _MOST_ROOM):
        raise InvalidRoom(room)


def word_between(run, guard, early, late):
    _check_guarded(run, guard)
    if not is_count(early) or early >= time_of(run[3]):
        raise InvalidTime(early)
    watched = Watched(run, guard)
    if not is_from_to(late, early + 1, watched.end_of_step(early)):
        raise InvalidTime(late)
    return watched.word(early, late)


def _stretches_from(watched, early, late, room):
    """The stretches of a part of a step, which is halved so often at most."""
    word = watched.word_if_told(early, late)
    if word is None:
        word = _PERHAPS
    if word != _PERHAPS or room == 0 or late - early == 1:
        return [_stretch(word, early, late)]
    middle = (early + late) // 2
    found = _stretches_from(watched, early, middle, room - 1)
    found.extend(_stretches_from(watched, middle, late, room - 1))
    if all(part[0] == "perhaps" for part in found):
        return [_stretch(_PERHAPS, early, late)]
    return found


def stretches_of(run, guard, room):
    """Stretches, of values that are known to be right."""
    watched = Watched(run, guard)
    found = []
    for k in range(len(run[3])):
        found.extend(_stretches_from(watched, watched.begun[k], watched.begun[k + 1], room))
    return found


def stretches(run, guard, room):
    _check_guarded(run, guard)
    _check_room(room)
    return stretches_of(run, guard, room)


def _is_form(value):
    """Whether any value is a stretch, whenever it is, and whatever the word there."""
    if not isinstance(value, tuple) or len(value) < 3 or not isinstance(value[0], str):
        return False
    word, early, late = value[:3]
    if not is_count(early) or not is_integer(late) or late <= early:
        return False
    if word == "perhaps":
        return len(value) == 3
    if len(value) != 4 or not isinstance(value[3], str):
        return False
    if word == "never":
        return value[3] == "above" or value[3] == "below"
    return word == "once" and (value[3] == "up" or value[3] == "down")


def _is_right(watched, part):
    """Whether a part by its form, begun within the run, is a stretch of it."""
    early, late = part[1:3]
    if late > watched.end_of_step(early):
        return False
    return part[0] == "perhaps" or watched.word_if_told(early, late) == part[:1] + part[3:]


def are_stretches(run, guard, value):
    """Whether any value are stretches, the run and the guard being known to be right."""
    if not is_listed(value) or not all(_is_form(part) for part in value):
        return False
    watched = Watched(run, guard)
    end = watched.begun[-1]
    at = 0
    for part in value:
        if part[1] != at or at == end or not _is_right(watched, part):
            return False
        at = part[2]
    return at == end


def is_stretches(run, guard, value):
    _check_guarded(run, guard)
    return are_stretches(run, guard, value)


def _check_stretches(run, guard, value):
    _check_guarded(run, guard)
    if not are_stretches(run, guard, value):
        raise InvalidStretches(value)


def crossings(run, guard, value):
    _check_stretches(run, guard, value)
    return [part[1:] for part in value if part[0] == "once"]


def undecided(run, guard, value):
    _check_stretches(run, guard, value)
    found = []
    for part in value:
        if part[0] == "perhaps":
            _, early, late = part
            if found and found[-1][1] == early:
                early, _ = found.pop()
            found.append((early, late))
    return found


def _sign_by(part, time):
    """The sign that a stretch tells for a time, None if it tells none."""
    word, early, late = part[:3]
    if word == "never" and early <= time <= late:
        return part[3]
    if word == "once" and (time == early or time == late):
        return _SIGNS[part[3]][0 if time == early else 1]
    return None


def sign_at(run, guard, value, time):
    _check_stretches(run, guard, value)
    check_time(time, time_of(run[3]))
    for part in value:
        sign = _sign_by(part, time)
        if sign is not None:
            return sign
    return None


def _is_shorter(watched, part, early, late):
    """Whether a "once" may be cut down to these times, with "never" ahead and behind."""
    ahead, behind = _SIGNS[part[3]]
    if early > part[1] and watched.word_if_told(part[1], early) != ("never", ahead):
        return False
    if late < part[2] and watched.word_if_told(late, part[2]) != ("never", behind):
        return False
    return watched.word_if_told(early, late) == ("once", part[3])


def _sharper(watched, part, room):
    """The stretches in the place of a "once".

    The early end is looked for from where it may be to where it can't, and so the late one; both
    by halves, so that they go together as long as these tell on which side all courses cross.
    """
    _, early, late, way = part
    latest = late
    earliest = early
    for _ in range(room):
        first = (early + latest) // 2
        final = (earliest + late) // 2
        if first > early and _is_shorter(watched, part, first, late):
            early = first
        else:
            latest = first
        if early < final < late and _is_shorter(watched, part, early, final):
            late = final
        else:
            earliest = final
        earliest = max(earliest, early)
        latest = min(latest, late)
    found = [("once", early, late, way)]
    if early > part[1]:
        found = [("never", part[1], early, _SIGNS[way][0])] + found
    if late < part[2]:
        found.append(("never", late, part[2], _SIGNS[way][1]))
    return found


def sharpened(run, guard, value, room):
    _check_stretches(run, guard, value)
    _check_room(room)
    watched = Watched(run, guard)
    found = []
    for part in value:
        if part[0] == "once":
            found.extend(_sharper(watched, part, room))
        else:
            found.append(part)
    return found
