"""Systems whose time runs otherwise, or that are told the time; parameters left out."""

from truecourse.errors import InvalidName, InvalidPosition, NotStill, SameName
from truecourse.exact import UNIT, ratio_power, ratio_times
from truecourse.joining import check_letters
from truecourse.kinds import is_from_to
from truecourse.polys import check_system, is_name
from truecourse.ratios import check_ratio
from truecourse.terms import constant_poly, gathered, terms_scaled


def time_scaled(system, ratio):
    check_system(system)
    check_ratio(ratio)
    word, names, polys = system
    return (word, names, tuple([terms_scaled(poly, ratio) for poly in polys]))


def with_time(system, name):
    check_system(system)
    if not is_name(name):
        raise InvalidName(name)
    word, names, polys = system
    if name in names:
        raise SameName(name)
    letters = len(names) + 1
    check_letters(letters)
    longer = [tuple([(own + (0,), ratio) for own, ratio in poly]) for poly in polys]
    return (word, names + (name,), tuple(longer + [constant_poly(UNIT, letters)]))


def parameters_of(system):
    check_system(system)
    return [k for k, poly in enumerate(system[2]) if not poly]


def _left_out(row, position):
    return row[:position] + row[position + 1:]


def _with_number(poly, position, ratio):
    """The poly with a number put for a letter, which goes."""
    return gathered([
        (_left_out(own, position), ratio_times(factor, ratio_power(ratio, own[position])))
        for own, factor in poly])


def with_value(system, position, ratio):
    check_system(system)
    word, names, polys = system
    if len(names) == 1 or not is_from_to(position, 0, len(names) - 1):
        raise InvalidPosition(position)
    check_ratio(ratio)
    if polys[position]:
        raise NotStill()
    left = [_with_number(poly, position, ratio) for poly in _left_out(polys, position)]
    return (word, _left_out(names, position), tuple(left))
