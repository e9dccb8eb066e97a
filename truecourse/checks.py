"""Checks of parameters that have the same error in many files."""

from truecourse.errors import InvalidMany, InvalidRoom, InvalidStep, InvalidTime
from truecourse.kinds import is_count, is_from_to

MOST_ORDER = 8
# 8 and 480, in grains.
MOST_STEP = 8 << 40
MOST_TIME = 480 << 40
MOST_ROOM = 40


def is_step_length(value):
    return is_from_to(value, 1, MOST_STEP)


def is_order(value):
    return is_from_to(value, 1, MOST_ORDER)


def check_step(step):
    if not is_step_length(step):
        raise InvalidStep(step)


def check_order(many):
    if not is_order(many):
        raise InvalidMany(many)


def check_room(room):
    if not is_from_to(room, 0, MOST_ROOM):
        raise InvalidRoom(room)


def is_time_to(value, most):
    """Whether any value is a COUNT to the greatest one that is let."""
    return is_count(value) and value <= most


def check_time(time, most):
    if not is_time_to(time, most):
        raise InvalidTime(time)


def check_times(early, late, most):
    check_time(early, most)
    check_time(late, most)
    if late < early:
        raise InvalidTime(late)
