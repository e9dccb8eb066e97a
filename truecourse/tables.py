"""TABLES over many starts: from which cells courses are in a target at a time."""

from truecourse.boxes import check_box_of, is_box
from truecourse.checks import MOST_TIME, check_time, is_time_to
from truecourse.errors import InvalidCounts, InvalidPosition, InvalidRun, InvalidTable, InvalidTarget, TooMany
from truecourse.grids import are_counts, box_of_cell, cells_of, check_counts_of, do_meet
from truecourse.held import is_box_within
from truecourse.kinds import is_from_to, is_listed
from truecourse.polys import check_system, is_system
from truecourse.runners import run_to
from truecourse.runs import box_told_at, is_run, time_of
from truecourse.settings import check_settings


def check_target(system, target):
    if not is_box(target) or len(target) != len(system[1]):
        raise InvalidTarget(target)


def _word(run, time, target):
    """The word by a run, of values that are known to be right."""
    if time_of(run[3]) < time:
        return "spent"
    box = box_told_at(run, time)
    if is_box_within(box, target):
        return "in"
    return "perhaps" if do_meet(box, target) else "out"


def word_by(system, run, time, target):
    check_system(system)
    if not is_run(run) or run[1] != system:
        raise InvalidRun(run)
    check_time(time, MOST_TIME)
    check_target(system, target)
    return _word(run, time, target)


def _row_for(system, box, time, target, settings):
    """The word and the run of a cell with this box."""
    run = run_to(system, box, time, settings)[1]
    return (_word(run, time, target), run)


def table(system, box, counts, time, target, settings):
    check_system(system)
    check_box_of(len(system[1]), box)
    check_counts_of(len(box), counts)
    check_time(time, MOST_TIME)
    check_target(system, target)
    check_settings(settings)
    rows = [
        _row_for(system, box_of_cell(box, counts, cell), time, target, settings)
        for cell in cells_of(counts)]
    return ("table", system, box, counts, time, target, rows)


def _is_row(system, cell, time, target, value):
    """Whether any value is a row of a table for a cell with this box."""
    if not isinstance(value, tuple) or len(value) != 2 or not isinstance(value[0], str):
        return False
    word, run = value
    if not is_run(run) or run[1] != system or not is_box_within(cell, run[2]):
        return False
    try:
        return _word(run, time, target) == word
    except TooMany:
        return False


def _is_head(value):
    """Whether any value is a table but for its rows."""
    if not isinstance(value, tuple) or len(value) != 7 or not isinstance(value[0], str):
        return False
    word, system, box, counts, time, target, _ = value
    if word != "table" or not is_system(system) or not is_time_to(time, MOST_TIME):
        return False
    letters = len(system[1])
    if not is_box(box) or not is_box(target) or not are_counts(counts):
        return False
    return len(box) == len(target) == len(counts) == letters


def is_table(value):
    if not _is_head(value):
        return False
    _, system, box, counts, time, target, rows = value
    cells = cells_of(counts)
    if not is_listed(rows) or len(rows) != len(cells):
        return False
    for cell, row in zip(cells, rows):
        if not _is_row(system, box_of_cell(box, counts, cell), time, target, row):
            return False
    return True


def _check_table(told):
    if not is_table(told):
        raise InvalidTable(told)


def _cells_with(told, word):
    _check_table(told)
    return [cell for cell, row in zip(cells_of(told[3]), told[6]) if row[0] == word]


def sure_in(told):
    return _cells_with(told, "in")


def sure_out(told):
    return _cells_with(told, "out")


def _sure_boxes(told):
    """The boxes of the cells that are sure, each with its row."""
    _, _, box, counts, _, _, rows = told
    return [
        (box_of_cell(box, counts, cell), row) for cell, row in zip(cells_of(counts), rows)
        if row[0] == "in" or row[0] == "out"]


def _row_kept(sure, cell):
    """The row of the first sure box within which a cell's box lies, None if there is none."""
    for box, row in sure:
        if is_box_within(cell, box):
            return row
    return None


def _doubled(counts, position):
    return counts[:position] + (2 * counts[position],) + counts[position + 1:]


def finer(told, position, settings):
    _check_table(told)
    _, system, box, counts, time, target, _ = told
    if not is_from_to(position, 0, len(box) - 1):
        raise InvalidPosition(position)
    check_settings(settings)
    counts = _doubled(counts, position)
    if not are_counts(counts):
        raise InvalidCounts(counts)
    sure = _sure_boxes(told)
    rows = []
    for cell in cells_of(counts):
        piece = box_of_cell(box, counts, cell)
        row = _row_kept(sure, piece)
        rows.append(_row_for(system, piece, time, target, settings) if row is None else row)
    return ("table", system, box, counts, time, target, rows)
