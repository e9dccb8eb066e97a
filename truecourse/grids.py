"""GRIDS: boxes cut into cells."""

from truecourse.boxes import check_box, check_box_of
from truecourse.errors import InvalidCounts, InvalidMany, InvalidPosition
from truecourse.grains import grain_meet
from truecourse.intervals import check_interval
from truecourse.kinds import is_from_to, is_some_tuple

_MOST_PARTS = 64
_MOST_CELLS = 100


def _is_part_count(value):
    return is_from_to(value, 1, _MOST_PARTS)


def are_counts(value):
    """Whether any value are the counts of some grid."""
    if not is_some_tuple(value) or not all(_is_part_count(part) for part in value):
        return False
    many = 1
    for part in value:
        many = many * part
    return many <= _MOST_CELLS


def check_counts(counts):
    if not are_counts(counts):
        raise InvalidCounts(counts)


def check_counts_of(many, counts):
    """The counts must be those of a grid of so many letters."""
    if not are_counts(counts) or len(counts) != many:
        raise InvalidCounts(counts)


def _cut_at(interval, many, k):
    low, high = interval
    return low + k * (high - low) // many


def cuts(interval, many):
    check_interval(interval)
    if not _is_part_count(many):
        raise InvalidMany(many)
    return [_cut_at(interval, many, k) for k in range(many + 1)]


def cells_of(counts):
    """The sorted list of the cells of a grid's counts."""
    found = [()]
    for many in counts:
        found = [cell + (k,) for cell in found for k in range(many)]
    return found


def cells(counts):
    check_counts(counts)
    return cells_of(counts)


def box_of_cell(box, counts, cell):
    """The box of a cell that is known to be one."""
    return tuple([
        (_cut_at(interval, many, k), _cut_at(interval, many, k + 1))
        for interval, many, k in zip(box, counts, cell)])


def _is_cell(counts, value):
    if not isinstance(value, tuple) or len(value) != len(counts):
        return False
    return all(is_from_to(k, 0, many - 1) for k, many in zip(value, counts))


def cell_box(box, counts, cell):
    check_box(box)
    check_counts_of(len(box), counts)
    if not _is_cell(counts, cell):
        raise InvalidPosition(cell)
    return box_of_cell(box, counts, cell)


def do_meet(box, other):
    """Whether two boxes of as many intervals have a point in common, be it of their ends."""
    return all(grain_meet(one, two) is not None for one, two in zip(box, other))


def cells_met(box, counts, other):
    """The cells whose boxes meet another box, of values that are known to be right."""
    return [cell for cell in cells_of(counts) if do_meet(box_of_cell(box, counts, cell), other)]


def cells_meeting(box, counts, other):
    check_box(box)
    check_counts_of(len(box), counts)
    check_box_of(len(box), other)
    return cells_met(box, counts, other)
