"""Signs of POLYS over boxes, shown by papers that cut the box where need be."""

from truecourse.boxes import box_halves
from truecourse.corners import corners_of
from truecourse.errors import InvalidRoom, InvalidWord
from truecourse.exact import ratio_of
from truecourse.grains import ONE, middle_of
from truecourse.kinds import is_from_to
from truecourse.polys import check_poly
from truecourse.ranges import best_on, check_box_for, plain_on, word_of
from truecourse.terms import terms_slope, terms_value

_MOST_ROOM = 199
_MOST_PARTS = 400
_MOST_DEEP = 40
_LEAF = ("leaf",)


def _leaf_word(poly, box):
    """The word for which a leaf holds over the box, None if there is none."""
    word = word_of(best_on(poly, box))
    if word is not None:
        return word
    numbers = corners_of(poly, box)
    if all(number[0] > 0 for number in numbers):
        return "above"
    if all(number[0] < 0 for number in numbers):
        return "below"
    return None


def _middle_word(poly, box):
    """The sign of the value at the middle, None of 0: no paper can hold for another word."""
    point = [ratio_of(middle_of(interval), ONE) for interval in box]
    number = terms_value(poly, point)[0]
    if number == 0:
        return None
    return "above" if number > 0 else "below"


def cut_position(poly, box):
    """The letter by which the values seem to differ the most, None if no cut would help."""
    found = None
    most = 0
    for position, interval in enumerate(box):
        length = interval[1] - interval[0]
        low, high = plain_on(terms_slope(poly, position), box)
        apart = max(-low, high) * length
        # A piece of one grain has itself as a half.
        if length > 1 and apart > most:
            found = position
            most = apart
    return found


def _paper_for(poly, box, word, room, deep):
    """A paper with so many cuts at most and how many they are, None if none is found."""
    told = _leaf_word(poly, box)
    if told == word:
        return (_LEAF, 0)
    if told is not None or room == 0 or deep == _MOST_DEEP:
        return None
    position = cut_position(poly, box)
    if position is None or _middle_word(poly, box) != word:
        return None
    first, second = box_halves(box, position)
    one = _paper_for(poly, first, word, room - 1, deep + 1)
    if one is None:
        return None
    other = _paper_for(poly, second, word, room - 1 - one[1], deep + 1)
    if other is None:
        return None
    return (("cut", position, one[0], other[0]), 1 + one[1] + other[1])


def sign_on(poly, box, room):
    check_poly(poly)
    check_box_for(poly, box)
    if not is_from_to(room, 0, _MOST_ROOM):
        raise InvalidRoom(room)
    word = _leaf_word(poly, box)
    if word is not None:
        return (word, _LEAF)
    word = _middle_word(poly, box)
    if word is None:
        return None
    found = _paper_for(poly, box, word, room, 1)
    if found is None:
        return None
    return (word, found[0])


def _is_part(value, letters):
    """Whether any value is a leaf, or a cut whatever its pieces are."""
    if not isinstance(value, tuple) or len(value) == 0 or not isinstance(value[0], str):
        return False
    if value[0] == "leaf":
        return len(value) == 1
    if value[0] != "cut" or len(value) != 4:
        return False
    return is_from_to(value[1], 0, letters - 1)


def is_tree(value, letters, most_parts, most_deep):
    """Whether any value is a tree of leaves and cuts of so many letters, not too large."""
    waiting = [(value, 1)]
    many = 0
    while waiting:
        part, deep = waiting.pop()
        many += 1
        if many > most_parts or deep > most_deep or not _is_part(part, letters):
            return False
        if part[0] == "cut":
            waiting.append((part[3], deep + 1))
            waiting.append((part[2], deep + 1))
    return True


def leaf_boxes(tree, box):
    """The pieces of a box at which the leaves of a tree stand, the first piece first."""
    found = []
    waiting = [(tree, box)]
    while waiting:
        part, piece = waiting.pop()
        if part[0] == "cut":
            first, second = box_halves(piece, part[1])
            waiting.append((part[3], second))
            waiting.append((part[2], first))
        else:
            found.append(piece)
    return found


def is_held_sign(poly, box, word, value):
    """Whether any value is a sign paper that holds for a word that is one."""
    if not is_tree(value, len(box), _MOST_PARTS, _MOST_DEEP):
        return False
    for piece in leaf_boxes(value, box):
        if _leaf_word(poly, piece) != word:
            return False
    return True


def is_sign_word(value):
    return isinstance(value, str) and (value == "above" or value == "below")


def is_sign_paper(poly, box, word, value):
    check_poly(poly)
    check_box_for(poly, box)
    if not is_sign_word(word):
        raise InvalidWord(word)
    return is_held_sign(poly, box, word, value)
