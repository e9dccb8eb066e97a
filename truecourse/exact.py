"""Exact reckoning with RATIOS that are known to be such."""

from math import gcd

NOUGHT = (0, 1)
UNIT = (1, 1)

# Python itself refuses to write numbers of some thousand digits at once.
_PIECE = 10 ** 60
_PIECE_DIGITS = 60


def ratio_of(number, under):
    """The RATIO of two INTEGERS, under not 0."""
    if under < 0:
        number = -number
        under = -under
    part = gcd(number, under)
    return (number // part, under // part)


def ratio_plus(one, other):
    if one[1] == 1 and other[1] == 1:
        return (one[0] + other[0], 1)
    return ratio_of(one[0] * other[1] + other[0] * one[1], one[1] * other[1])


def ratio_minus(one, other):
    return ratio_plus(one, (-other[0], other[1]))


def ratio_times(one, other):
    if one[1] == 1 and other[1] == 1:
        return (one[0] * other[0], 1)
    return ratio_of(one[0] * other[0], one[1] * other[1])


def ratio_over(one, other):
    """The quotient by a RATIO that is not 0."""
    return ratio_of(one[0] * other[1], one[1] * other[0])


def integer_power(base, many):
    result = 1
    for _ in range(many):
        result = result * base
    return result


def ratio_power(ratio, many):
    # Powers of numbers without a common divisor have none either.
    return (integer_power(ratio[0], many), integer_power(ratio[1], many))


def is_less(one, other):
    return one[0] * other[1] < other[0] * one[1]


def floor_of(ratio, times):
    """The greatest INTEGER at most the RATIO taken so often."""
    return ratio[0] * times // ratio[1]


def ceiling_of(ratio, times):
    """The least INTEGER at least the RATIO taken so often."""
    return -(-ratio[0] * times // ratio[1])


def digits_of(number):
    """The decimal digits of an INTEGER, however many, `-` ahead below 0."""
    if number < 0:
        return "-" + digits_of(-number)
    pieces = []
    while number >= _PIECE:
        number, piece = divmod(number, _PIECE)
        pieces.append(str(piece).zfill(_PIECE_DIGITS))
    pieces.append(str(number))
    return "".join(pieces[::-1])


def text_of_ratio(ratio):
    if ratio[1] == 1:
        return digits_of(ratio[0])
    return digits_of(ratio[0]) + "/" + digits_of(ratio[1])
