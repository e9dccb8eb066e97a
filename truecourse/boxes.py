"""BOXES of intervals and POINTS of RATIOS."""

from truecourse.errors import InvalidBox, InvalidPoint, InvalidPosition, UnlikeSizes
from truecourse.grains import grain_around, grain_hull, grain_meet, has_ratio, lies_within, middle_of
from truecourse.intervals import is_interval
from truecourse.kinds import is_from_to, is_some_tuple
from truecourse.ratios import is_ratio


def is_box(value):
    return is_some_tuple(value) and all(is_interval(part) for part in value)


def is_point(value):
    return is_some_tuple(value) and all(is_ratio(part) for part in value)


def check_box(box):
    if not is_box(box):
        raise InvalidBox(box)


def check_box_of(many, box):
    """A box must have so many intervals."""
    if not is_box(box) or len(box) != many:
        raise InvalidBox(box)


def check_point(point):
    if not is_point(point):
        raise InvalidPoint(point)


def check_point_of(many, point):
    """A point must have so many RATIOS."""
    if not is_point(point) or len(point) != many:
        raise InvalidPoint(point)


def check_sizes(one, other):
    if len(one) != len(other):
        raise UnlikeSizes()


def _check_boxes(box, other):
    check_box(box)
    check_box(other)
    check_sizes(box, other)


def box_within(box, other):
    _check_boxes(box, other)
    return all([lies_within(part, whole) for part, whole in zip(box, other)])


def box_hull(box, other):
    _check_boxes(box, other)
    return tuple([grain_hull(one, two) for one, two in zip(box, other)])


def box_meet(box, other):
    _check_boxes(box, other)
    meets = [grain_meet(one, two) for one, two in zip(box, other)]
    if None in meets:
        return None
    return tuple(meets)


def _widths(box):
    return [high - low for low, high in box]


def box_width(box):
    check_box(box)
    return max(_widths(box))


def widest(box):
    check_box(box)
    widths = _widths(box)
    return widths.index(max(widths))


def with_interval(box, position, interval):
    """The box with another interval at a position."""
    return box[:position] + (interval,) + box[position + 1:]


def box_halves(box, position):
    """The two boxes into which a box is split at a position."""
    low, high = box[position]
    half = middle_of(box[position])
    return (with_interval(box, position, (low, half)), with_interval(box, position, (half, high)))


def split_box(box, position):
    check_box(box)
    if not is_from_to(position, 0, len(box) - 1):
        raise InvalidPosition(position)
    return box_halves(box, position)


def holds_point(box, point):
    check_box(box)
    check_point(point)
    check_sizes(box, point)
    return all([has_ratio(part, ratio) for part, ratio in zip(box, point)])


def around_point(point):
    check_point(point)
    return tuple([grain_around(ratio) for ratio in point])
