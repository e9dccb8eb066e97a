"""Systems side by side, and parts of systems that stand alone; step papers likewise."""

from truecourse.errors import InvalidPaper, InvalidPositions, NotAlone, SameName, TooMany
from truecourse.kinds import MOST_LETTERS, is_from_to, is_listed
from truecourse.polys import check_system
from truecourse.steps import is_step_form


def check_letters(many):
    if many > MOST_LETTERS:
        raise TooMany("letters", MOST_LETTERS)


def _spread(poly, ahead, behind):
    """A poly with so many letters more, which do not come in it, on both sides."""
    return tuple([((0,) * ahead + own + (0,) * behind, ratio) for own, ratio in poly])


def joined(system, other):
    check_system(system)
    check_system(other)
    _, names, polys = system
    _, others, more = other
    for name in names:
        if name in others:
            raise SameName(name)
    check_letters(len(names) + len(others))
    polys = [_spread(poly, 0, len(others)) for poly in polys]
    more = [_spread(poly, len(names), 0) for poly in more]
    return ("system", names + others, tuple(polys + more))


def _check_form(paper):
    if not is_step_form(paper):
        raise InvalidPaper(paper)


def joined_step(paper, other):
    _check_form(paper)
    _check_form(other)
    word, begin, step, many, held, end = paper
    _, others, length, order, more, last = other
    if step != length or many != order:
        return None
    check_letters(len(begin) + len(others))
    return (word, begin + others, step, many, held + more, end + last)


def _check_positions(letters, positions):
    """Some rising positions of letters must be passed."""
    if not is_listed(positions) or len(positions) == 0:
        raise InvalidPositions(positions)
    least = 0
    for position in positions:
        if not is_from_to(position, least, letters - 1):
            raise InvalidPositions(positions)
        least = position + 1


def _hangs_on(poly, position):
    return any(own[position] > 0 for own, _ in poly)


def _check_alone(polys, positions):
    """The slopes of these letters must hang on no others."""
    others = [k for k in range(len(polys)) if k not in positions]
    for position in positions:
        if any(_hangs_on(polys[position], k) for k in others):
            raise NotAlone(position)


def _parts_of(row, positions):
    return tuple([row[k] for k in positions])


def part(system, positions):
    check_system(system)
    _, names, polys = system
    _check_positions(len(names), positions)
    _check_alone(polys, positions)
    found = [
        tuple([(_parts_of(own, positions), ratio) for own, ratio in polys[k]]) for k in positions]
    return ("system", _parts_of(names, positions), tuple(found))


def part_step(paper, positions):
    _check_form(paper)
    word, begin, step, many, held, end = paper
    _check_positions(len(begin), positions)
    return (
        word, _parts_of(begin, positions), step, many, _parts_of(held, positions),
        _parts_of(end, positions))
