"""SAFE BOXES, which no course leaves, and the papers that show it face by face."""

from truecourse.boxes import box_halves, check_box_of, with_interval
from truecourse.corners import corner_range_on, has_few_corners
from truecourse.errors import TooMany
from truecourse.exact import ratio_of
from truecourse.grains import ONE, in_bounds, middle_of
from truecourse.narrowing import check_sixty
from truecourse.polys import check_system
from truecourse.ranges import best_on
from truecourse.signs import cut_position, is_tree, leaf_boxes
from truecourse.terms import terms_value

_MOST_NODES = 127
_MOST_DEEP = 12
_LEAF = ("leaf",)
# A face that isn't shown is moved out by half of the box's width there, and at least by 1/8.
_LEAST_MOVE = 1 << 37


def _face(box, position, is_low):
    end = box[position][0 if is_low else 1]
    return with_interval(box, position, (end, end))


def _is_good(interval, is_low):
    """Whether no number is below 0 at a low face, above 0 at a high one."""
    return interval[0] >= 0 if is_low else interval[1] <= 0


def _leaf_shows(poly, box, is_low):
    if _is_good(best_on(poly, box), is_low):
        return True
    return has_few_corners(poly, len(box)) and _is_good(corner_range_on(poly, box), is_low)


def _tree_shows(poly, box, is_low, value):
    """Whether any value is a face tree that shows what a face asks for."""
    if not is_tree(value, len(box), _MOST_NODES, _MOST_DEEP):
        return False
    return all(_leaf_shows(poly, piece, is_low) for piece in leaf_boxes(value, box))


def _are_shown(polys, box, value):
    """Whether a tuple of as many values as letters are the pairs of their face trees."""
    for position, pair in enumerate(value):
        if not isinstance(pair, tuple) or len(pair) != 2:
            return False
        for is_low, tree in ((True, pair[0]), (False, pair[1])):
            if not _tree_shows(polys[position], _face(box, position, is_low), is_low, tree):
                return False
    return True


def is_safe_paper(system, box, value):
    """Whether any value is a safe paper, the system and the box being known to be right."""
    if not isinstance(value, tuple) or len(value) != len(box):
        return False
    try:
        return _are_shown(system[2], box, value)
    except TooMany:
        return False


def is_safe(system, box, value):
    check_system(system)
    check_box_of(len(system[1]), box)
    return is_safe_paper(system, box, value)


def _is_refuted(poly, box, is_low):
    """Whether at one of some points of the box the value has the wrong sign."""
    lows = [low for low, _ in box]
    highs = [high for _, high in box]
    for place in (lows, [middle_of(interval) for interval in box], highs):
        number = terms_value(poly, [ratio_of(grains, ONE) for grains in place])[0]
        if (number < 0) if is_low else (number > 0):
            return True
    return False


def _tree_for(poly, box, is_low, room, deep):
    """A face tree that shows it and how many cuts it has, None if none is found."""
    if _leaf_shows(poly, box, is_low):
        return (_LEAF, 0)
    if room == 0 or deep == _MOST_DEEP or _is_refuted(poly, box, is_low):
        return None
    position = cut_position(poly, box)
    if position is None:
        return None
    first, second = box_halves(box, position)
    one = _tree_for(poly, first, is_low, room - 1, deep + 1)
    if one is None:
        return None
    other = _tree_for(poly, second, is_low, room - 1 - one[1], deep + 1)
    if other is None:
        return None
    return (("cut", position, one[0], other[0]), 1 + one[1] + other[1])


def _face_tree(polys, box, position, is_low, room):
    found = _tree_for(polys[position], _face(box, position, is_low), is_low, room, 1)
    return None if found is None else found[0]


def _face_trees(polys, box, room):
    """For each letter the pair of its face trees, None in the place of each that isn't found."""
    return tuple([
        (_face_tree(polys, box, k, True, room), _face_tree(polys, box, k, False, room))
        for k in range(len(box))])


def _are_whole(trees):
    return all(low is not None and high is not None for low, high in trees)


def safe_paper(system, box, room):
    check_system(system)
    check_box_of(len(system[1]), box)
    check_sixty(room)
    trees = _face_trees(system[2], box, room)
    return trees if _are_whole(trees) else None


def _moved_out(box, trees):
    """The box with each face moved out for which there is no tree."""
    found = []
    for (low, high), (lower, upper) in zip(box, trees):
        move = max((high - low) // 2, _LEAST_MOVE)
        found.append(in_bounds(
            low - move if lower is None else low, high + move if upper is None else high))
    return tuple(found)


def _found_around(polys, box, trees, room):
    """A safe box around one for which some trees lack, and its paper; None if none is found."""
    for _ in range(room):
        box = _moved_out(box, trees)
        trees = _face_trees(polys, box, room)
        if _are_whole(trees):
            return (box, trees)
    return None


def safe_around(system, box, room):
    check_system(system)
    check_box_of(len(system[1]), box)
    check_sixty(room)
    trees = _face_trees(system[2], box, room)
    if _are_whole(trees):
        return (box, trees)
    try:
        return _found_around(system[2], box, trees, room)
    except TooMany:
        return None
