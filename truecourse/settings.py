"""SETTINGS: how runs are to go on, and what they may spend."""

from truecourse.checks import MOST_ROOM, MOST_STEP, check_order, is_order
from truecourse.errors import InvalidSettings
from truecourse.grains import ONE
from truecourse.kinds import is_from_to

MOST_PAPERS = 60
_MOST_WIDTH = 1 << 60


def _is_kind(value):
    return isinstance(value, str) and (value == "box" or value == "set")


def is_settings(value):
    if not isinstance(value, tuple) or len(value) != 8:
        return False
    word, kind, many, first, least, most, widest, room = value
    if not isinstance(word, str) or word != "settings":
        return False
    if not _is_kind(kind) or not is_order(many):
        return False
    if not is_from_to(first, 1, MOST_STEP) or not is_from_to(least, 1, first):
        return False
    if not is_from_to(most, 1, MOST_PAPERS) or not is_from_to(widest, 1, _MOST_WIDTH):
        return False
    return is_from_to(room, 0, MOST_ROOM)


def check_settings(settings):
    if not is_settings(settings):
        raise InvalidSettings(settings)


def plain_settings(kind, many):
    if not _is_kind(kind):
        raise InvalidSettings(kind)
    check_order(many)
    return ("settings", kind, many, ONE // 4, ONE // 65536, 60, 1024 * ONE, 20)
