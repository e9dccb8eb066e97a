"""MODELS brought to SYSTEMS of polynomials, by further letters for functions and quotients."""

from truecourse.errors import NotThere, TooMany
from truecourse.exact import UNIT, ratio_over
from truecourse.grains import NOTHING, grain_around, grain_hull
from truecourse.kinds import MOST_LETTERS
from truecourse.models import check_model, names_in, parts_among, value_on
from truecourse.terms import (
    MOST_DEGREE, constant_poly, letter_poly, limited, terms_degree, terms_flow, terms_plus,
    terms_scaled, terms_times)

_MINUS = (-1, 1)
_HALF = (1, 2)
_ONE = ("number", (1, 1))


class Added:
    """The letters that are added so far; `letters` is how many there may be at most in all.

    All polys on the way are in so many letters: how many are needed is known at the end only.
    """

    def __init__(self, names, letters):
        self.names = names
        self.letters = letters
        # For each added letter the word, the poly and the expression that it was added for.
        self.reasons = []
        self.places = {}

    def letter_at(self, position):
        return letter_poly(position, self.letters)

    def has(self, word, poly):
        return (word, poly) in self.places

    def place_of(self, word, poly):
        return self.places[(word, poly)]

    def put_behind(self, word, poly, expression):
        """One more letter, which stands for the expression."""
        self.places[(word, poly)] = len(self.names) + len(self.reasons)
        self.reasons.append((word, poly, expression))


def _called(word, expression):
    return ("call", word, expression)


def _add_over(added, poly, expression):
    """The letter of 1 over a poly, the value of the expression; added if there is none yet."""
    if not added.has("over", poly):
        added.put_behind("over", poly, ("over", _ONE, expression))


def _add_letters(added, word, poly, expression):
    """All letters that a function of a poly, the value of the expression, needs."""
    if word == "log":
        _add_over(added, poly, expression)
    if word == "sin" or word == "cos":
        added.put_behind("sin", poly, _called("sin", expression))
        added.put_behind("cos", poly, _called("cos", expression))
        return
    added.put_behind(word, poly, _called(word, expression))
    if word == "root":
        root = added.letter_at(added.place_of("root", poly))
        _add_over(added, root, _called("root", expression))


def _power(poly, many, letters):
    if many == 0:
        return constant_poly(UNIT, letters)
    # Degrees of products are known without multiplying out, which might take very long.
    if terms_degree(poly) * many > MOST_DEGREE:
        raise TooMany("degree", MOST_DEGREE)
    result = poly
    for _ in range(many - 1):
        result = limited(terms_times(result, poly))
    return result


def _quotient(added, poly, under, expression):
    """A poly over another one, which is the value of the expression."""
    if not under:
        raise NotThere()
    if terms_degree(under) == 0:
        return terms_scaled(poly, ratio_over(UNIT, under[0][1]))
    _add_over(added, under, expression)
    return terms_times(poly, added.letter_at(added.place_of("over", under)))


def _led_pair(added, expression):
    word = expression[0]
    one = _led(added, expression[1])
    other = _led(added, expression[2])
    if word == "plus":
        return terms_plus(one, other)
    if word == "minus":
        return terms_plus(one, terms_scaled(other, _MINUS))
    if word == "times":
        return terms_times(one, other)
    return _quotient(added, one, other, expression[2])


def _led_call(added, expression):
    _, word, inner = expression
    poly = _led(added, inner)
    if not added.has(word, poly):
        _add_letters(added, word, poly, inner)
    return added.letter_at(added.place_of(word, poly))


def _led(added, expression):
    """The POLY to which an expression is led."""
    word = expression[0]
    if word == "number":
        return constant_poly(expression[1], added.letters)
    if word == "name":
        return added.letter_at(added.names.index(expression[1]))
    if word == "call":
        return _led_call(added, expression)
    if word == "neg":
        return terms_scaled(_led(added, expression[1]), _MINUS)
    if word == "power":
        poly = _led(added, expression[1])
        return limited(_power(poly, expression[2], added.letters))
    return limited(_led_pair(added, expression))


def _most_letters(model, names):
    """As many letters as there may be at most: each function or quotient adds two or less."""
    parts = parts_among([letter[3] for letter in model[3]])
    adding = [part for part in parts if part[0] == "over" or part[0] == "call"]
    return len(names) + 2 * len(adding)


def _cut_down(poly, letters):
    """A poly in the first so many of its letters; it has no others."""
    return tuple([(exponents[:letters], ratio) for exponents, ratio in poly])


def _added_slope(added, position, polys):
    """The slope of an added letter, by the polys of all letters ahead of it."""
    word, poly, _ = added.reasons[position - len(added.names)]
    steep = terms_flow(polys, poly)
    own = added.letter_at(position)
    if word == "over":
        return terms_scaled(terms_times(terms_times(own, own), steep), _MINUS)
    if word == "exp":
        return terms_times(own, steep)
    if word == "log":
        return terms_times(added.letter_at(added.place_of("over", poly)), steep)
    if word == "sin":
        return terms_times(added.letter_at(position + 1), steep)
    if word == "cos":
        return terms_scaled(terms_times(added.letter_at(position - 1), steep), _MINUS)
    under = added.letter_at(added.place_of("over", own))
    return terms_scaled(terms_times(under, steep), _HALF)


def _tie_of(added, position):
    """The tie that is told with an added letter, None if there is none."""
    word, poly, _ = added.reasons[position - len(added.names)]
    own = added.letter_at(position)
    less_one = constant_poly(_MINUS, added.letters)
    if word == "over":
        return terms_plus(terms_times(own, poly), less_one)
    if word == "sin":
        other = added.letter_at(position + 1)
        circle = terms_plus(terms_times(own, own), terms_times(other, other))
        return terms_plus(circle, less_one)
    if word == "root":
        return terms_plus(terms_times(own, own), terms_scaled(poly, _MINUS))
    return None


def _all_names(names, many):
    """The names, and so many new ones behind."""
    found = list(names)
    k = 1
    while len(found) < len(names) + many:
        if f"q{k}" not in names:
            found.append(f"q{k}")
        k += 1
    return tuple(found)


def _start_box(model, added):
    _, time, givens, letters = model
    box = [
        grain_hull(grain_around(begun[1]), grain_around(begun[2])) for begun in letters + givens]
    if time is not None:
        box.append(NOTHING)
    intervals = dict(zip(added.names, box))
    for _, _, expression in added.reasons:
        box.append(value_on(expression, intervals))
    return tuple(box)


def flattened(model):
    check_model(model)
    _, time, givens, letters = model
    names = names_in(model)
    added = Added(names, _most_letters(model, names))
    polys = [_led(added, letter[3]) for letter in letters] + [()] * len(givens)
    if time is not None:
        polys.append(constant_poly(UNIT, added.letters))
    many = len(names) + len(added.reasons)
    if many > MOST_LETTERS:
        raise TooMany("letters", MOST_LETTERS)
    box = _start_box(model, added)
    for position in range(len(names), many):
        polys.append(limited(_added_slope(added, position, polys)))
    ties = [_tie_of(added, position) for position in range(len(names), many)]
    ties = tuple([_cut_down(limited(tie), many) for tie in ties if tie is not None])
    polys = tuple([_cut_down(poly, many) for poly in polys])
    return ("flat", ("system", _all_names(names, len(added.reasons)), polys), box, ties)
