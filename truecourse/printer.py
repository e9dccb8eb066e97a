"""MODELS and EXPRESSIONS written as texts."""

from truecourse.exact import text_of_ratio
from truecourse.models import check_expression, check_model

_SIGNS = {"plus": " + ", "minus": " - ", "times": " * ", "over": " / "}

# How closely a sign binds. What binds less than its place asks for needs brackets there.
_SIGNED = 3
_ATOM = 5
_STRENGTHS = {
    "plus": 1, "minus": 1, "times": 2, "over": 2, "neg": 3, "power": 4,
    "number": 5, "name": 5, "call": 5}


def _text_at(expression, least):
    """The text of an expression at a place where what binds less needs brackets."""
    text = text_of_expression(expression)
    if _STRENGTHS[expression[0]] < least:
        return "(" + text + ")"
    return text


def text_of_expression(expression):
    """The text of an expression that is known to be one."""
    word = expression[0]
    if word == "number":
        return text_of_ratio(expression[1])
    if word == "name":
        return expression[1]
    if word == "neg":
        return "-" + _text_at(expression[1], _SIGNED)
    if word == "power":
        return _text_at(expression[1], _ATOM) + "^" + str(expression[2])
    if word == "call":
        return expression[1] + "(" + text_of_expression(expression[2]) + ")"
    strength = _STRENGTHS[word]
    # Sums and products go from left to right, so only what stands behind must bind closer.
    return _text_at(expression[1], strength) + _SIGNS[word] + _text_at(expression[2], strength + 1)


def expression_text(expression):
    check_expression(expression)
    return text_of_expression(expression)


def _range_text(low, high):
    if low == high:
        return text_of_ratio(low)
    return text_of_ratio(low) + " to " + text_of_ratio(high)


def model_text(model):
    check_model(model)
    _, time, givens, letters = model
    rows = []
    if time is not None:
        rows.append(f"time {time}")
    for name, low, high in givens:
        rows.append(f"given {name} = {_range_text(low, high)}")
    for name, low, high, _ in letters:
        rows.append(f"letter {name} = {_range_text(low, high)}")
    for name, _, _, slope in letters:
        rows.append(f"slope {name} = {text_of_expression(slope)}")
    return "".join([row + "\n" for row in rows])
