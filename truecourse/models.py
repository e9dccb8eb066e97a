"""MODELS and EXPRESSIONS: what they are, and what expressions are worth on boxes."""

from truecourse.boxes import check_box_of
from truecourse.circles import cosine_of, sine_of
from truecourse.errors import InvalidExpression, InvalidModel, InvalidNames, NotThere
from truecourse.exact import is_less
from truecourse.exponentials import exp_of, log_of
from truecourse.grains import (
    NOTHING, grain_around, grain_minus, grain_over, grain_plus, grain_power, grain_times)
from truecourse.kinds import MOST_LETTERS, is_from_to, is_listed
from truecourse.polys import is_name
from truecourse.ratios import is_ratio
from truecourse.roots import root_of
from truecourse.terms import MOST_DEGREE

MOST_PARTS = 200
MOST_DEEP = 30

PAIRS = ("plus", "minus", "times", "over")
FUNCTIONS = ("exp", "log", "sin", "cos", "root")


def parts_in(part):
    """The expressions that an expression is directly made of."""
    word = part[0]
    if word in PAIRS or word == "neg":
        return part[1:]
    if word == "power":
        return part[1:2]
    if word == "call":
        return part[2:]
    return ()


def _is_part(value):
    """Whether any value is an expression, whatever the expressions in it are."""
    if not isinstance(value, tuple) or len(value) < 2 or not isinstance(value[0], str):
        return False
    word = value[0]
    if word == "number":
        return len(value) == 2 and is_ratio(value[1]) and value[1][0] >= 0
    if word == "name":
        return len(value) == 2 and is_name(value[1])
    if word == "neg":
        return len(value) == 2
    if word == "power":
        return len(value) == 3 and is_from_to(value[2], 0, MOST_DEGREE)
    if word == "call":
        return len(value) == 3 and isinstance(value[1], str) and value[1] in FUNCTIONS
    return word in PAIRS and len(value) == 3


def parts_among(values):
    """All parts of expressions, None if there are too many, or any value is no expression."""
    found = []
    waiting = [(value, 1) for value in values]
    while waiting:
        part, deep = waiting.pop()
        found.append(part)
        if len(found) > MOST_PARTS or deep > MOST_DEEP or not _is_part(part):
            return None
        for inner in parts_in(part):
            waiting.append((inner, deep + 1))
    return found


def _names_among(parts):
    return [part[1] for part in parts if part[0] == "name"]


def is_expression(value):
    return parts_among([value]) is not None


def check_expression(expression):
    if not is_expression(expression):
        raise InvalidExpression(expression)


def _is_range(value):
    """Whether any value begins with a name and two RATIOS, the second one not less."""
    if not isinstance(value, tuple) or len(value) < 3 or not is_name(value[0]):
        return False
    if not is_ratio(value[1]) or not is_ratio(value[2]):
        return False
    return not is_less(value[2], value[1])


def _are_ranges(value, length):
    """Whether any value is a tuple of at most 8 tuples of this length that begin so."""
    if not isinstance(value, tuple) or len(value) > MOST_LETTERS:
        return False
    return all(_is_range(part) and len(part) == length for part in value)


def _is_model_form(value):
    """Whether any value is a model, whatever its names and expressions are."""
    if not isinstance(value, tuple) or len(value) != 4:
        return False
    word, time, givens, letters = value
    if not isinstance(word, str) or word != "model":
        return False
    if time is not None and not is_name(time):
        return False
    return _are_ranges(givens, 3) and _are_ranges(letters, 4) and len(letters) > 0


def names_in(model):
    _, time, givens, letters = model
    names = [letter[0] for letter in letters] + [given[0] for given in givens]
    if time is not None:
        names.append(time)
    return names


def is_model(value):
    if not _is_model_form(value):
        return False
    names = names_in(value)
    if len(names) > MOST_LETTERS or len(set(names)) != len(names):
        return False
    parts = parts_among([letter[3] for letter in value[3]])
    if parts is None:
        return False
    return all(name in names for name in _names_among(parts))


def check_model(model):
    if not is_model(model):
        raise InvalidModel(model)


def names_of(model):
    check_model(model)
    return names_in(model)


def _value_called(word, interval):
    if word == "exp":
        return exp_of(interval)
    if word == "log":
        return log_of(interval)
    if word == "sin":
        return sine_of(interval)
    if word == "cos":
        return cosine_of(interval)
    return root_of(interval)


def _value_of_pair(word, one, other):
    if word == "plus":
        return grain_plus(one, other)
    if word == "minus":
        return grain_minus(one, other)
    if word == "times":
        return grain_times(one, other)
    if other[0] <= 0 <= other[1]:
        raise NotThere()
    return grain_over(one, other)


def value_on(expression, intervals):
    """The interval of an expression that is one, each name being in its interval."""
    word = expression[0]
    if word == "number":
        return grain_around(expression[1])
    if word == "name":
        return intervals[expression[1]]
    parts = [value_on(part, intervals) for part in parts_in(expression)]
    if word == "neg":
        return grain_minus(NOTHING, parts[0])
    if word == "power":
        return grain_power(parts[0], expression[2])
    if word == "call":
        return _value_called(expression[1], parts[0])
    return _value_of_pair(word, parts[0], parts[1])


def _are_names_for(expression, value):
    """Whether any value is a list of unlike names, with all that an expression has."""
    if not is_listed(value) or not all(is_name(name) for name in value):
        return False
    if len(set(value)) != len(value):
        return False
    return all(name in value for name in _names_among(parts_among([expression])))


def expression_value(expression, names, box):
    check_expression(expression)
    if not _are_names_for(expression, names):
        raise InvalidNames(names)
    check_box_of(len(names), box)
    return value_on(expression, dict(zip(names, box)))
