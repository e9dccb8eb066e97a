"""POLYS written as texts, and read."""

from truecourse.errors import BadText, InvalidNames, UnlikeLetters
from truecourse.exact import UNIT, ratio_of, ratio_times, text_of_ratio
from truecourse.kinds import is_listed
from truecourse.polys import NAME_CHARACTERS, SMALL_LETTERS, are_names, check_poly
from truecourse.ratios import check_text, digits_end
from truecourse.terms import MOST_DEGREE, add_term, letters_in, limited, poly_of_table

_MOST_DIGITS = 40


def check_names(names):
    if not is_listed(names) or not are_names(names):
        raise InvalidNames(names)


def _term_text(exponents, ratio, names):
    """A term without its sign."""
    parts = []
    if ratio != UNIT or sum(exponents) == 0:
        parts.append(text_of_ratio(ratio))
    for many, name in zip(exponents, names):
        if many == 1:
            parts.append(name)
        elif many > 1:
            parts.append(f"{name}^{many}")
    return "*".join(parts)


def text_of_poly(poly, names):
    if not poly:
        return "0"
    pieces = []
    for exponents, ratio in poly:
        below = ratio[0] < 0
        if pieces:
            pieces.append(" - " if below else " + ")
        elif below:
            pieces.append("-")
        pieces.append(_term_text(exponents, (abs(ratio[0]), ratio[1]), names))
    return "".join(pieces)


def poly_text(poly, names):
    check_poly(poly)
    check_names(names)
    if poly and letters_in(poly) != len(names):
        raise UnlikeLetters()
    return text_of_poly(poly, names)


def _behind_blanks(text, at):
    while at < len(text) and text[at] == " ":
        at += 1
    return at


def _number_end(text, at):
    """The place behind a number, which must begin here."""
    end = digits_end(text, at)
    if end == at or end - at > _MOST_DIGITS:
        raise BadText(at)
    return end


def _name_end(text, at):
    end = at
    while end < len(text) and text[end] in NAME_CHARACTERS:
        end += 1
    return end


def _read_number(text, at):
    """The RATIO that begins here, and the place of what comes behind it."""
    end = _number_end(text, at)
    number = int(text[at:end])
    at = _behind_blanks(text, end)
    if text[at:at + 1] != "/":
        return ((number, 1), at)
    at = _behind_blanks(text, at + 1)
    end = _number_end(text, at)
    under = int(text[at:end])
    if under == 0:
        raise BadText(at)
    return (ratio_of(number, under), _behind_blanks(text, end))


def _read_power(text, at):
    """The exponent behind a name, 1 if none stands there, and the place behind it."""
    at = _behind_blanks(text, at)
    if text[at:at + 1] != "^":
        return (1, at)
    at = _behind_blanks(text, at + 1)
    end = _number_end(text, at)
    many = int(text[at:end])
    if many > MOST_DEGREE:
        raise BadText(at)
    return (many, _behind_blanks(text, end))


def _read_term(text, at, names):
    """The exponents and the RATIO of the term that begins here, and the place behind it."""
    exponents = [0] * len(names)
    ratio = UNIT
    while True:
        if at < len(text) and text[at] in SMALL_LETTERS:
            end = _name_end(text, at)
            if text[at:end] not in names:
                raise BadText(at)
            position = list(names).index(text[at:end])
            many, at = _read_power(text, end)
            exponents[position] += many
        else:
            factor, at = _read_number(text, at)
            ratio = ratio_times(ratio, factor)
        if text[at:at + 1] != "*":
            return (tuple(exponents), ratio, at)
        at = _behind_blanks(text, at + 1)


def parse_poly(text, names):
    check_text(text)
    check_names(names)
    table = {}
    at = _behind_blanks(text, 0)
    sign = text[at:at + 1]
    if sign == "+" or sign == "-":
        at = _behind_blanks(text, at + 1)
    while True:
        exponents, ratio, at = _read_term(text, at, names)
        if sign == "-":
            ratio = (-ratio[0], ratio[1])
        add_term(table, exponents, ratio)
        if at == len(text):
            return limited(poly_of_table(table))
        sign = text[at]
        if sign != "+" and sign != "-":
            raise BadText(at)
        at = _behind_blanks(text, at + 1)
