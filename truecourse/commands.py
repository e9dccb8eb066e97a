"""COMMANDS of a desk: their words, and how intervals, boxes and times are written."""

from truecourse.boxes import check_box
from truecourse.exact import floor_of, is_less, ratio_of, text_of_ratio
from truecourse.grains import ONE, grain_around, grain_hull
from truecourse.intervals import check_interval
from truecourse.polys import NAME_CHARACTERS, SMALL_LETTERS, is_name
from truecourse.ratios import digits_end

_LONGEST_NAME = 8
_MOST_DIGITS = 12

# What stands behind the word of each deed, and of each other command: "new" is a name under
# which nothing may be kept, "any" one of something of any sort, "other" one of something of the
# sort of the thing ahead.
_DEEDS = {
    "model": ("new", "text"), "flat": ("new", "model"), "start": ("flat", "letter", "range"),
    "guard": ("new", "flat", "text"), "run": ("new", "flat", "time", "kind", "count"),
    "cut": ("new", "run", "count"), "read": ("new", "text"), "rescue": ("new", "text"),
    "copy": ("new", "any"), "drop": ("any",)}
_QUESTIONS = {
    "undo": (), "redo": (), "names": (), "show": ("any",), "begins": ("flat",),
    "at": ("run", "time"), "between": ("run", "time", "time"), "value": ("run", "guard", "time"),
    "kept": ("flat", "count"), "crosses": ("run", "guard", "count"), "judged": ("run",),
    "record": ("run",), "same": ("any", "other")}
_NAMED = ("new", "model", "flat", "guard", "run", "any", "other")


def _is_desk_name(word):
    if not 1 <= len(word) <= _LONGEST_NAME or word[0] not in SMALL_LETTERS:
        return False
    return all(character in NAME_CHARACTERS for character in word)


def _is_plain_count(word):
    """Whether a word has digits alone, at least one, and no needless zeros."""
    if word == "" or digits_end(word, 0) < len(word):
        return False
    return word == "0" or word[0] != "0"


def ratio_in(word):
    """The RATIO that a word tells as its text; None if it tells none, or has too many digits."""
    below = word[:1] == "-"
    top, slash, bottom = word[1 if below else 0:].partition("/")
    if len(top) + len(bottom) > _MOST_DIGITS or not _is_plain_count(top):
        return None
    if slash == "/" and (not _is_plain_count(bottom) or bottom == "0"):
        return None
    number = -int(top) if below else int(top)
    ratio = ratio_of(number, int(bottom) if slash == "/" else 1)
    return ratio if text_of_ratio(ratio) == word else None


def range_in(word):
    """The two RATIOS that a word tells as a range, the first one not greater; None if none."""
    first, dots, second = word.partition("..")
    low = ratio_in(first)
    high = ratio_in(second) if dots == ".." else low
    if low is None or high is None or is_less(high, low):
        return None
    return (low, high)


def interval_in(word):
    """The hull of what is around the RATIOS of a range."""
    low, high = range_in(word)
    return grain_hull(grain_around(low), grain_around(high))


def grains_in(word):
    """The greatest number of grains at most the time that a word tells."""
    return floor_of(ratio_in(word), ONE)


def _is_time(word):
    ratio = ratio_in(word)
    return ratio is not None and ratio[0] >= 0


def _is_part(shape, word):
    """Whether a word may stand for what a command asks for."""
    if shape in _NAMED:
        return _is_desk_name(word)
    if shape == "letter":
        return is_name(word)
    if shape == "range":
        return range_in(word) is not None
    if shape == "time":
        return _is_time(word)
    if shape == "kind":
        return word == "box" or word == "set"
    if shape == "count":
        return _is_plain_count(word) and len(word) <= 2
    # A text is whatever stands there, if something does.
    return word != ""


def shapes_of(word):
    """What stands behind a command's word, None of any other string."""
    if word in _DEEDS:
        return _DEEDS[word]
    return _QUESTIONS.get(word)


def parts_of(value):
    """The word of a command and what stands behind it; None of any value that is no command."""
    if not isinstance(value, str):
        return None
    word = value.partition(" ")[0]
    shapes = shapes_of(word)
    if shapes is None:
        return None
    parts = value.split(" ")
    if "text" in shapes:
        # The text comes last, and has all blanks that stand in it.
        parts = value.split(" ", len(shapes))
    if len(parts) != len(shapes) + 1:
        return None
    if not all(_is_part(shape, part) for shape, part in zip(shapes, parts[1:])):
        return None
    return parts


def is_command(value):
    return parts_of(value) is not None


def is_deed(value):
    parts = parts_of(value)
    return parts is not None and parts[0] in _DEEDS


def text_of_grains(grains):
    return text_of_ratio(ratio_of(grains, ONE))


def text_of_interval(interval):
    return text_of_grains(interval[0]) + ".." + text_of_grains(interval[1])


def text_of_box(box):
    return ", ".join([text_of_interval(interval) for interval in box])


def interval_text(interval):
    check_interval(interval)
    return text_of_interval(interval)


def box_text(box):
    check_box(box)
    return text_of_box(box)
