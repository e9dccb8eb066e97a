"""RATIOS: made, written, read."""

from math import gcd

from truecourse.errors import BadText, InvalidInteger, InvalidRatio, InvalidText, NoQuotient
from truecourse.exact import ratio_of, text_of_ratio
from truecourse.kinds import is_integer

_DIGITS = "0123456789"
_MOST_DIGITS = 40
_TOO_LARGE = 10 ** 40


def is_ratio(value):
    if not isinstance(value, tuple) or len(value) != 2:
        return False
    number, under = value
    if not is_integer(number) or not is_integer(under):
        return False
    return under >= 1 and gcd(number, under) == 1


def check_ratio(ratio):
    if not is_ratio(ratio):
        raise InvalidRatio(ratio)


def check_text(text):
    if not isinstance(text, str):
        raise InvalidText(text)


def _check_integer(number):
    if not is_integer(number) or abs(number) >= _TOO_LARGE:
        raise InvalidInteger(number)


def ratio(number, under):
    _check_integer(number)
    _check_integer(under)
    if under == 0:
        raise NoQuotient()
    return ratio_of(number, under)


def ratio_text(ratio):
    check_ratio(ratio)
    return text_of_ratio(ratio)


def digits_end(text, begin):
    """The place behind the run of digits that begins at a place."""
    at = begin
    while at < len(text) and text[at] in _DIGITS:
        at += 1
    return at


def _few_digits_end(text, begin):
    return min(digits_end(text, begin), begin + _MOST_DIGITS)


def _check_read(text, begin, end):
    """Some digits must stand from begin to end; what is behind them comes later."""
    if begin == end:
        raise BadText(begin)


def _check_whole(text, end):
    if end < len(text):
        raise BadText(end)


def parse_ratio(text):
    check_text(text)
    begin = 1 if text[:1] == "-" else 0
    end = _few_digits_end(text, begin)
    _check_read(text, begin, end)
    number = int(text[begin:end])
    if begin == 1:
        number = -number
    if text[end:end + 1] == "/":
        return ratio_of(number, _under_read(text, end + 1))
    if text[end:end + 1] == ".":
        return _tenths_read(text, begin, end)
    _check_whole(text, end)
    return (number, 1)


def _under_read(text, begin):
    end = _few_digits_end(text, begin)
    _check_read(text, begin, end)
    under = int(text[begin:end])
    if under == 0 and end == begin + _MOST_DIGITS:
        # Behind 39 zeros only another digit can lead to a number that is not 0.
        raise BadText(end - 1)
    _check_whole(text, end)
    if under == 0:
        raise BadText(end)
    return under


def _tenths_read(text, begin, point):
    end = _few_digits_end(text, point + 1)
    _check_read(text, point + 1, end)
    _check_whole(text, end)
    number = int(text[begin:point] + text[point + 1:end])
    if begin == 1:
        number = -number
    return ratio_of(number, int("1" + "0" * (end - point - 1)))
