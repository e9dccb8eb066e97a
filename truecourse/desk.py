"""A DESK: models, flats, guards and runs under names, kept by deeds that can be taken back."""

from truecourse.boxes import with_interval
from truecourse.commands import (
    grains_in, interval_in, is_deed, parts_of, shapes_of, text_of_box, text_of_grains,
    text_of_interval)
from truecourse.crossings import stretches
from truecourse.errors import (
    CommandFailed, CourseError, InvalidCommand, InvalidDeeds, LimitError, MissingError, NameTaken,
    NoRun, NothingToRedo, NothingToUndo, StateError, TooMany, UnknownLetter, UnknownName,
    UnlikeLetters)
from truecourse.flattening import flattened
from truecourse.judge import judged
from truecourse.kept import kept_polys
from truecourse.kinds import is_listed
from truecourse.parser import parse_model
from truecourse.polytexts import parse_poly, text_of_poly
from truecourse.printer import model_text
from truecourse.ranges import plain_on
from truecourse.records import good_part, parse_record, record_text
from truecourse.runners import run
from truecourse.runs import box_at, box_between, run_kinds, time_of
from truecourse.settings import plain_settings

_MOST_NAMES = 16
_MOST_DEEDS = 200
_DONE = "-"
_SORTS = ("model", "flat", "guard", "run", "any", "other")

# A THING is a tuple (sort, what is kept, the names of a guard's letters). Of each deed a function
# tells the thing that is kept now under the first name of the command, None if nothing is, and
# the answer.


def _do_model(_, parts):
    return (("model", parse_model(parts[2]), ()), _DONE)


def _do_flat(things, parts):
    return (("flat", flattened(things[parts[2]][1]), ()), _DONE)


def _do_start(things, parts):
    _, name, letter, told = parts
    word, system, box, ties = things[name][1]
    if letter not in system[1]:
        raise UnknownLetter(letter)
    box = with_interval(box, system[1].index(letter), interval_in(told))
    return (("flat", (word, system, box, ties), ()), _DONE)


def _do_guard(things, parts):
    names = things[parts[2]][1][1][1]
    return (("guard", parse_poly(parts[3], names), names), _DONE)


def _do_run(things, parts):
    _, _, name, told, kind, count = parts
    settings = plain_settings(kind, int(count))
    _, system, box, _ = things[name][1]
    found = run(system, box, grains_in(told), settings)
    return (("run", found[1], ()), " ".join(found[:1] + found[2:]))


def _do_cut(things, parts):
    word, system, start, papers = things[parts[2]][1]
    return (("run", (word, system, start, papers[:int(parts[3])]), ()), _DONE)


def _do_read(_, parts):
    return (("run", parse_record(parts[2]), ()), _DONE)


def _do_rescue(_, parts):
    found = good_part(parts[2])
    if found is None:
        raise NoRun()
    return (("run", found, ()), _DONE)


def _do_copy(things, parts):
    return (things[parts[2]], _DONE)


def _do_drop(_, parts):
    return (None, _DONE)


def _names(things, _):
    return " ".join(sorted(things)) if things else "-"


def _flat_text(flat):
    _, names, polys = flat[1]
    return "\n".join([
        name + "' = " + text_of_poly(poly, names) for name, poly in zip(names, polys)])


def _show(things, parts):
    sort, own, names = things[parts[1]]
    if sort == "model":
        return model_text(own)
    if sort == "flat":
        return _flat_text(own)
    if sort == "guard":
        return text_of_poly(own, names)
    return f"{run_kinds(own)[0]} {len(own[3])} {text_of_grains(time_of(own[3]))}"


def _begins(things, parts):
    return text_of_box(things[parts[1]][1][2])


def _at(things, parts):
    return text_of_box(box_at(things[parts[1]][1], grains_in(parts[2])))


def _between(things, parts):
    _, name, early, late = parts
    return text_of_box(box_between(things[name][1], grains_in(early), grains_in(late)))


def _check_letters(own, names):
    """A run and a guard must be of systems with like numbers of letters."""
    if len(own[2]) != len(names):
        raise UnlikeLetters()


def _value(things, parts):
    own = things[parts[1]][1]
    _, guard, names = things[parts[2]]
    _check_letters(own, names)
    return text_of_interval(plain_on(guard, box_at(own, grains_in(parts[3]))))


def _kept(things, parts):
    system = things[parts[1]][1][1]
    texts = [text_of_poly(poly, system[1]) for poly in kept_polys(system, int(parts[2]))]
    return "\n".join(texts) if texts else "none"


def _stretch_text(part):
    times = [text_of_grains(part[1]), text_of_grains(part[2])]
    return " ".join([part[0]] + times + list(part[3:]))


def _crosses(things, parts):
    own = things[parts[1]][1]
    _, guard, names = things[parts[2]]
    _check_letters(own, names)
    return ", ".join([_stretch_text(part) for part in stretches(own, guard, int(parts[3]))])


def _judged(things, parts):
    return judged(things[parts[1]][1])[0]


def _written(things, parts):
    return record_text(things[parts[1]][1])


def _same(things, parts):
    return "yes" if things[parts[1]][1] == things[parts[2]][1] else "no"


_DEEDS = {
    "model": _do_model, "flat": _do_flat, "start": _do_start, "guard": _do_guard, "run": _do_run,
    "cut": _do_cut, "read": _do_read, "rescue": _do_rescue, "copy": _do_copy, "drop": _do_drop}
_ANSWERS = {
    "names": _names, "show": _show, "begins": _begins, "at": _at, "between": _between,
    "value": _value, "kept": _kept, "crosses": _crosses, "judged": _judged, "record": _written,
    "same": _same}


def _is_kept(things, name, sort):
    return name in things and (sort == "any" or things[name][0] == sort)


def _check_names(things, parts):
    """Each NEW must be free, and under each other name something of the wanted sort be kept."""
    pairs = list(zip(shapes_of(parts[0]), parts[1:]))
    for shape, name in pairs:
        if shape == "new" and name in things:
            raise NameTaken(name)
    sort = None
    for shape, name in pairs:
        if shape in _SORTS:
            wanted = sort if shape == "other" else shape
            if not _is_kept(things, name, wanted):
                raise UnknownName(name)
            sort = things[name][0]


class Desk:
    """What is kept is never changed: each deed makes a new dict of things."""

    def __init__(self):
        self._things = {}
        # The deeds with the things ahead of each; those taken back with the things behind each.
        self._done = []
        self._undone = []

    def names(self):
        return sorted(self._things)

    def __len__(self):
        return len(self._done)

    def __contains__(self, name):
        return isinstance(name, str) and name in self._things

    def __getitem__(self, name):
        if name not in self:
            raise UnknownName(name)
        return self._things[name][1]

    def __iter__(self):
        raise TypeError("a desk is not iterated over")

    def do(self, command):
        parts = parts_of(command)
        if parts is None:
            raise InvalidCommand(command)
        word = parts[0]
        if word == "undo":
            return self._take_back()
        if word == "redo":
            return self._do_again()
        _check_names(self._things, parts)
        if word in _DEEDS:
            return self._do_deed(command, parts)
        answer = _ANSWERS[word]
        return answer(self._things, parts)

    def __call__(self, command):
        return self.do(command)

    def _do_deed(self, command, parts):
        deed = _DEEDS[parts[0]]
        thing, answer = deed(self._things, parts)
        things = dict(self._things)
        if thing is None:
            del things[parts[1]]
        else:
            things[parts[1]] = thing
        if len(things) > _MOST_NAMES:
            raise TooMany("names", _MOST_NAMES)
        if len(self._done) >= _MOST_DEEDS:
            raise TooMany("deeds", _MOST_DEEDS)
        self._done.append((command, self._things))
        self._things = things
        self._undone = []
        return answer

    def _take_back(self):
        if not self._done:
            raise NothingToUndo()
        command, things = self._done.pop()
        self._undone.append((command, self._things))
        self._things = things
        return command

    def _do_again(self):
        if not self._undone:
            raise NothingToRedo()
        command, things = self._undone.pop()
        self._done.append((command, self._things))
        self._things = things
        return command

    def do_all(self, *commands):
        other = self.twin()
        answers = []
        for position, command in enumerate(commands):
            try:
                answers.append(other.do(command))
            except (CourseError, MissingError, StateError, LimitError) as why:
                raise CommandFailed(position) from why
        self._things = other._things
        self._done = other._done
        self._undone = other._undone
        return answers

    def lines(self):
        return [command for command, _ in self._done]

    def twin(self):
        other = Desk()
        other._things = self._things
        other._done = list(self._done)
        other._undone = list(self._undone)
        return other

    @classmethod
    def again(cls, lines):
        if not is_listed(lines):
            raise InvalidDeeds(None)
        for position, line in enumerate(lines):
            if not is_deed(line):
                raise InvalidDeeds(position)
        desk = cls()
        for position, line in enumerate(lines):
            try:
                desk.do(line)
            except (CourseError, MissingError, StateError, LimitError) as why:
                raise CommandFailed(position) from why
        return desk
