"""What is told of a machine's courses: stays and switches, and the boxes at each time."""

from truecourse.boxes import check_box_of, is_box
from truecourse.checks import check_time
from truecourse.errors import InvalidSwitched
from truecourse.kinds import is_count, is_integer, is_listed
from truecourse.machines import check_machine, check_mode, is_machine
from truecourse.pieces import Traffic, are_pieces, behind_piece, is_stay, late_box_of, time_of_piece
from truecourse.runs import box_told_at
from truecourse.settings import check_settings
from truecourse.steps import met_sums
from truecourse.trips import followed

# 64, in grains.
_MOST_TIME = 64 << 40
_MOST_PIECES = 120
_WORDS = ("width", "steps", "step", "grains")


def _check_begin(machine, mode, box):
    check_machine(machine)
    check_mode(machine, mode)
    check_box_of(len(machine[1][mode][1]), box)


def switched(machine, mode, box, time, settings):
    _check_begin(machine, mode, box)
    check_time(time, _MOST_TIME)
    check_settings(settings)
    pieces, end = followed(machine, mode, box, time, settings)
    return ("switched", machine, mode, box, pieces, end)


def _is_end(value):
    if not isinstance(value, tuple) or not all(isinstance(part, str) for part in value):
        return False
    if len(value) == 1:
        return value[0] == "whole" or value[0] == "perhaps"
    return len(value) == 2 and value[0] == "spent" and value[1] in _WORDS


def _is_form(value):
    if not isinstance(value, tuple) or len(value) != 6:
        return False
    return isinstance(value[0], str) and value[0] == "switched"


def is_switched_of(machine, mode, box, value):
    """Whether any value is a SWITCHED of these, which are known to be right."""
    if not _is_form(value) or not is_machine(value[1]) or value[1] != machine:
        return False
    if not is_integer(value[2]) or value[2] != mode or not is_box(value[3]) or value[3] != box:
        return False
    _, _, _, _, pieces, end = value
    if not is_listed(pieces) or len(pieces) > _MOST_PIECES or not _is_end(end):
        return False
    return are_pieces(machine, mode, box, pieces)


def is_switched(machine, mode, box, value):
    _check_begin(machine, mode, box)
    return is_switched_of(machine, mode, box, value)


def _is_of_its_own(value):
    """Whether any value is a SWITCHED of its own machine, mode and box."""
    if not _is_form(value) or not is_machine(value[1]):
        return False
    _, machine, mode, box, _, _ = value
    if not is_count(mode) or mode >= len(machine[1]):
        return False
    if not is_box(box) or len(box) != len(machine[1][mode][1]):
        return False
    return is_switched_of(machine, mode, box, value)


def _check_switched(value):
    if not _is_of_its_own(value):
        raise InvalidSwitched(value)


def _time_of(pieces):
    return sum([time_of_piece(piece) for piece in pieces])


def switched_time(value):
    _check_switched(value)
    return _time_of(value[4])


def _told_in(traffic, mode, piece, time):
    """The modes and boxes told for a time of a piece, counted from its begin."""
    if is_stay(piece):
        return [(mode, box_told_at(piece[1], time))]
    _, w, paper, _, _, _ = piece
    target = traffic.ways[w][3]
    over = (target, late_box_of(traffic, piece, time))
    _, begin, step, many, held, _ = paper
    if time == step:
        return [over]
    if time == 0:
        return [(mode, begin), over]
    return [(mode, met_sums(traffic.systems[mode][2], begin, many, held, (time, time))), over]


def switched_box(value, time):
    _check_switched(value)
    _, machine, mode, box, pieces, _ = value
    check_time(time, _time_of(pieces))
    traffic = Traffic(machine)
    begun = 0
    for piece in pieces:
        length = time_of_piece(piece)
        if time <= begun + length:
            return _told_in(traffic, mode, piece, time - begun)
        begun = begun + length
        mode, box = behind_piece(traffic, mode, box, piece)
    return [(mode, box)]


def taken_ways(value):
    _check_switched(value)
    found = []
    begun = 0
    for piece in value[4]:
        length = time_of_piece(piece)
        if not is_stay(piece):
            found.append((piece[1], begun, begun + length))
        begun = begun + length
    return found
