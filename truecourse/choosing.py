"""Sets to which steps lead: their middles, matrices and boxes are chosen here."""

from math import isqrt

from truecourse.carried import check_source, led_matrix, middle_ends, ranges_for
from truecourse.checks import check_order, check_room, check_step
from truecourse.errors import InvalidRows, TooMany
from truecourse.exact import is_less, ratio_of
from truecourse.grains import ONE, middle_of
from truecourse.held import found_held
from truecourse.polys import check_system
from truecourse.rows import rows_determinant, rows_turned, unit_rows
from truecourse.sets import are_interval_rows, hull_of_set

# With so many bits numbers up to 1 have at most 12 digits above and below.
_MOST_BITS = 39
_TOO_LARGE = 10 ** 12

# Columns are made upright with numbers of about so many bits.
_FINE_BITS = 62
_FINE = 1 << 62
# What is left of a column must not be less than such a part of it, lest it be all rounding.
_LEAST_LENGTH = 1 << 36


def _length(column):
    return isqrt(sum([number * number for number in column]))


def _to_length(column, length):
    """A column of INTEGERS made about as long as FINE."""
    return [number * _FINE // length for number in column]


def _made_upright(column, others):
    """The column less what lies along others, which are as long as FINE."""
    for _ in range(2):
        for other in others:
            along = sum([one * two for one, two in zip(column, other)]) >> _FINE_BITS
            column = [one - (along * two >> _FINE_BITS) for one, two in zip(column, other)]
    return column


def _unit_column(many, place):
    return [_FINE if k == place else 0 for k in range(many)]


def _filled_up(found, many):
    """One more column, upright to those found: the unit column of which the most is left."""
    left = [_made_upright(_unit_column(many, place), found) for place in range(many)]
    return max(left, key=_length)


def _upright_columns(columns, weights):
    """Columns of length FINE, upright to one another, in the places of those they were made of.

    The longest ones, by their weights, come first and keep their direction.
    """
    many = len(columns)
    lengths = [_length(column) for column in columns]
    order = sorted([(-lengths[k] * weights[k], -lengths[k], k) for k in range(many)])
    found = []
    places = []
    missing = []
    for _, _, k in order:
        if lengths[k] > 0:
            column = _made_upright(_to_length(columns[k], lengths[k]), found)
            length = _length(column)
            if length >= _LEAST_LENGTH:
                found.append(_to_length(column, length))
                places.append(k)
                continue
        missing.append(k)
    for k in missing:
        column = _filled_up(found, many)
        found.append(_to_length(column, _length(column)))
        places.append(k)
    result = [[]] * many
    for k, column in zip(places, found):
        result[k] = column
    return result


def _has_inverse(matrix):
    return rows_determinant(matrix)[0] != 0


def _rounded_number(number, under_bits, bits):
    """The RATIO nearest to a number over 2 ** under_bits, with so many bits."""
    return ratio_of((number * (1 << bits + 1) + (1 << under_bits)) >> under_bits + 1, 1 << bits)


def _upright_matrix(rows, weights):
    """A matrix whose places are those of the rows made upright; it has an inverse always."""
    columns = [[low + high for low, high in column] for column in rows_turned(rows)]
    upright = _upright_columns(columns, weights)
    matrix = rows_turned([
        [_rounded_number(number, _FINE_BITS, _MOST_BITS) for number in column]
        for column in upright])
    return matrix if _has_inverse(matrix) else unit_rows(len(rows))


def _bits_for(most):
    """With how many bits numbers of at most so many half grains stay small enough."""
    bits = _MOST_BITS
    while (most << bits) // (2 * ONE) + 1 >= _TOO_LARGE:
        bits -= 1
    return bits


def _near_matrix(rows):
    """The rows' middles, rounded; None if this matrix has no inverse."""
    middles = [[low + high for low, high in row] for row in rows]
    bits = _bits_for(max([abs(number) for row in middles for number in row]))
    matrix = tuple([tuple([_rounded_number(number, 41, bits) for number in row]) for row in middles])
    return matrix if _has_inverse(matrix) else None


def choose_matrix(rows):
    if not are_interval_rows(rows) or len(rows) != len(rows[0]):
        raise InvalidRows(rows)
    return _upright_matrix(rows, [1] * len(rows))


def _size_of(target):
    """How much room a set takes, each side of its box one grain longer than it is."""
    number, under = rows_determinant(target[2])
    number = abs(number)
    for low, high in target[3]:
        number = number * (high - low + 1)
    return (number, under)


def _target(led, ends, box, middle, matrix):
    """The set with this middle and matrix to which a step leads.

    None where there is no matrix, or numbers of too many grains would be needed.
    """
    if matrix is None:
        return None
    target = ("set", middle, matrix, ranges_for(led, ends, box, middle, matrix))
    # The next step begins with the hull.
    hull_of_set(target)
    return target


def _target_or_none(led, ends, box, middle, matrix):
    try:
        return _target(led, ends, box, middle, matrix)
    except TooMany:
        return None


def _best_target(polys, source, step, many, held):
    """The smallest of the sets that are tried, None where all would need too many grains."""
    led = led_matrix(polys, source, step, many)
    ends = middle_ends(polys, source, step, many, held)
    middle = tuple([ratio_of(middle_of(end), ONE) for end in ends])
    weights = [high - low for low, high in source[3]]
    best = None
    for matrix in (_near_matrix(led), _upright_matrix(led, weights)):
        target = _target_or_none(led, ends, source[3], middle, matrix)
        if target is not None and (best is None or is_less(_size_of(target), _size_of(best))):
            best = target
    if best is None:
        return _target_or_none(led, ends, source[3], middle, unit_rows(len(polys)))
    return best


def carried_with(polys, source, step, many, held):
    """The carried paper with a box that holds the courses from the set's hull.

    None, or TooMany, where numbers of too many grains would be needed.
    """
    target = _best_target(polys, source, step, many, held)
    if target is None:
        return None
    return ("carried", source, step, many, held, target)


def found_carried(system, source, step, many, room):
    """A carried paper that is taken, None if none is found."""
    polys = system[2]
    try:
        held = found_held(polys, hull_of_set(source), step, room)
        return None if held is None else carried_with(polys, source, step, many, held)
    except TooMany:
        return None


def carried(system, source, step, many, room):
    check_system(system)
    check_source(system, source)
    check_step(step)
    check_order(many)
    check_room(room)
    return found_carried(system, source, step, many, room)
