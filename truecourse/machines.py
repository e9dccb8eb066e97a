"""MACHINES: systems between which courses go over, and are reset, where guards are crossed."""

from truecourse.errors import InvalidMachine, InvalidMode
from truecourse.kinds import is_count, is_from_to
from truecourse.polys import are_terms, is_system

_MOST_MODES = 6
_MOST_WAYS = 12


def is_way_word(value):
    return isinstance(value, str) and (value == "up" or value == "down")


def are_polys_in(letters, value):
    """Whether any value is a tuple of polys in so many letters."""
    return isinstance(value, tuple) and all(are_terms(letters, part) for part in value)


def _is_way(modes, value):
    if not isinstance(value, tuple) or len(value) != 5:
        return False
    origin, guard, word, target, resets = value
    if not is_from_to(origin, 0, len(modes) - 1) or not is_from_to(target, 0, len(modes) - 1):
        return False
    letters = len(modes[origin][1])
    if not are_terms(letters, guard) or not is_way_word(word) or not are_polys_in(letters, resets):
        return False
    return len(resets) == len(modes[target][1])


def is_machine(value):
    if not isinstance(value, tuple) or len(value) != 3:
        return False
    word, modes, ways = value
    if not isinstance(word, str) or word != "machine":
        return False
    if not isinstance(modes, tuple) or not 1 <= len(modes) <= _MOST_MODES:
        return False
    if not all(is_system(mode) for mode in modes):
        return False
    if not isinstance(ways, tuple) or len(ways) > _MOST_WAYS:
        return False
    return all(_is_way(modes, way) for way in ways)


def check_machine(machine):
    if not is_machine(machine):
        raise InvalidMachine(machine)


def check_mode(machine, mode):
    if not is_count(mode) or mode >= len(machine[1]):
        raise InvalidMode(mode)


def positions_from(machine, mode):
    return [k for k, way in enumerate(machine[2]) if way[0] == mode]


def ways_from(machine, mode):
    check_machine(machine)
    check_mode(machine, mode)
    return positions_from(machine, mode)
