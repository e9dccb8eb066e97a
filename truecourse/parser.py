"""MODELS and EXPRESSIONS read from texts."""

from truecourse.errors import BadText, TooMany
from truecourse.exact import is_less, ratio_of
from truecourse.kinds import MOST_LETTERS
from truecourse.models import FUNCTIONS, MOST_DEEP, MOST_PARTS
from truecourse.terms import MOST_DEGREE
from truecourse.tokens import tokens_of

_PAIR_WORDS = {"+": "plus", "-": "minus", "*": "times", "/": "over"}
_BRACKET = "("

# Texts may have brackets and signs one in the other by the thousands. So what is still open is
# kept in lists, and of each NODE, a tuple (expression, how many parts, how deep), its size, too.


class Told:
    """What the rows of a model's text tell, and the places that matter."""

    def __init__(self):
        self.clock = None
        self.givens = []
        self.letters = []
        # Of each name that is told its place, of each slope its name and place.
        self.told_names = []
        self.slopes = []
        self.nodes = []
        self.used_names = []
        self.wrong_ranges = []


def _is_sign(token, sign):
    return token[0] == "sign" and token[1] == sign


def _refuse(token):
    raise BadText(token[2])


def _behind(tokens, at, kind, text):
    """The place behind a token of this kind and text, which must stand here."""
    if tokens[at][0] != kind or tokens[at][1] != text:
        _refuse(tokens[at])
    return at + 1


def _check_kind(token, kind):
    if token[0] != kind:
        _refuse(token)


def _ratio_told(text):
    """The RATIO that a number tells."""
    if "/" in text:
        number, _, under = text.partition("/")
        return ratio_of(int(number), int(under))
    whole, _, tenths = text.partition(".")
    return ratio_of(int(whole + tenths), int("1" + "0" * len(tenths)))


def _put_together(head, nodes, last):
    """The node of the words ahead, the nodes' expressions, and the words behind."""
    expressions = tuple([node[0] for node in nodes])
    many = 1 + sum([node[1] for node in nodes])
    deep = 1 + max([node[2] for node in nodes])
    return (head + expressions + last, many, deep)


def _close_pair(values, waiting):
    word = waiting.pop()
    other = values.pop()
    one = values.pop()
    values.append(_put_together((word,), [one, other], ()))


def _close_signed(values, waiting):
    """What binds as a sign or a product does ends here."""
    while waiting and waiting[-1] == "neg":
        waiting.pop()
        values.append(_put_together(("neg",), [values.pop()], ()))
    if waiting and (waiting[-1] == "times" or waiting[-1] == "over"):
        _close_pair(values, waiting)


def _close_sum(values, waiting):
    if waiting and (waiting[-1] == "plus" or waiting[-1] == "minus"):
        _close_pair(values, waiting)


def _read_atom(tokens, at, values, waiting):
    """Reads what stands ahead of an atom, and the number or name; the place behind it."""
    while True:
        token = tokens[at]
        kind, text, _ = token
        at += 1
        if _is_sign(token, "-"):
            waiting.append("neg")
        elif _is_sign(token, "("):
            waiting.append(_BRACKET)
        elif kind == "word" and text in FUNCTIONS:
            at = _behind(tokens, at, "sign", "(")
            waiting.append(text)
        elif kind == "number":
            values.append((("number", _ratio_told(text)), 1, 1))
            return at
        else:
            _check_kind(token, "name")
            values.append((("name", text), 1, 1))
            return at


def _read_power(tokens, at, values):
    """Reads a power behind an atom, if one stands there; the place behind it."""
    if not _is_sign(tokens[at], "^"):
        return at
    token = tokens[at + 1]
    _check_kind(token, "number")
    number, under = _ratio_told(token[1])
    if under != 1 or number > MOST_DEGREE:
        _refuse(token)
    values.append(_put_together(("power",), [values.pop()], (number,)))
    return at + 2


def _read_closings(tokens, at, values, waiting):
    """Reads powers and brackets that close behind an atom; the place behind them."""
    while True:
        at = _read_power(tokens, at, values)
        _close_signed(values, waiting)
        if not _is_sign(tokens[at], ")"):
            return at
        _close_sum(values, waiting)
        if not waiting:
            _refuse(tokens[at])
        opened = waiting.pop()
        if opened != _BRACKET:
            values.append(_put_together(("call", opened), [values.pop()], ()))
        at += 1


def _read_expression(tokens, at):
    """The node of the expression that begins here and ends with the row, and its end's place."""
    values = []
    waiting = []
    while True:
        at = _read_atom(tokens, at, values, waiting)
        at = _read_closings(tokens, at, values, waiting)
        kind, text, _ = tokens[at]
        if kind == "sign" and text in _PAIR_WORDS:
            if text == "+" or text == "-":
                _close_sum(values, waiting)
            waiting.append(_PAIR_WORDS[text])
            at += 1
            continue
        _check_kind(tokens[at], "end")
        _close_sum(values, waiting)
        if waiting:
            _refuse(tokens[at])
        return (values[0], at)


def _read_value(tokens, at):
    """The RATIO that begins here, and the place behind it."""
    below = _is_sign(tokens[at], "-")
    if below:
        at += 1
    _check_kind(tokens[at], "number")
    number, under = _ratio_told(tokens[at][1])
    return ((-number if below else number, under), at + 1)


def _read_name(tokens, at):
    """The name that stands here and its place."""
    _check_kind(tokens[at], "name")
    return (tokens[at][1], tokens[at][2])


def _read_range(tokens, at, told):
    """The two RATIOS of a range that begins here and ends with the row, and its end's place."""
    low, at = _read_value(tokens, at)
    high = low
    if tokens[at][0] == "word" and tokens[at][1] == "to":
        place = tokens[at][2]
        high, at = _read_value(tokens, at + 1)
        if is_less(high, low):
            told.wrong_ranges.append(place)
    _check_kind(tokens[at], "end")
    return (low, high, at)


def _read_begin(tokens, at, told):
    """The parts (name, low, high) behind the word given or letter, and the row's end."""
    name, place = _read_name(tokens, at)
    at = _behind(tokens, at + 1, "sign", "=")
    low, high, at = _read_range(tokens, at, told)
    told.told_names.append((name, place))
    return ((name, low, high), at)


def _read_slope(tokens, at, told):
    """Reads what stands behind the word slope; the row's end."""
    name, place = _read_name(tokens, at)
    begin = _behind(tokens, at + 1, "sign", "=")
    node, end = _read_expression(tokens, begin)
    told.slopes.append((name, place))
    told.nodes.append(node)
    for kind, text, used in tokens[begin:end]:
        if kind == "name":
            told.used_names.append((text, used))
    return end


def _read_row(tokens, at, told):
    """Reads the row that begins here; the place of its end."""
    token = tokens[at]
    if token[0] == "end":
        return at
    word = token[1]
    if word == "given":
        begun, at = _read_begin(tokens, at + 1, told)
        told.givens.append(begun)
    elif word == "letter":
        begun, at = _read_begin(tokens, at + 1, told)
        told.letters.append(begun)
    elif word == "slope":
        at = _read_slope(tokens, at + 1, told)
    elif word == "time" and told.clock is None:
        name, place = _read_name(tokens, at + 1)
        told.clock = name
        told.told_names.append((name, place))
        at += 2
        _check_kind(tokens[at], "end")
    else:
        _refuse(token)
    return at


def _wrong_places(told):
    """All places of names and ranges at fault."""
    found = list(told.wrong_ranges)
    names = {}
    for name, place in told.told_names:
        if name in names:
            found.append(place)
        names[name] = True
    letters = [letter[0] for letter in told.letters]
    had = {}
    for name, place in told.slopes:
        if name not in letters or name in had:
            found.append(place)
        had[name] = True
    for name, place in told.used_names:
        if name not in names:
            found.append(place)
    return found


def _check_size(many, deep):
    if many > MOST_PARTS:
        raise TooMany("parts", MOST_PARTS)
    if deep > MOST_DEEP:
        raise TooMany("depth", MOST_DEEP)


def _check_told(told, length):
    """What is told must be whole, and small enough."""
    places = _wrong_places(told)
    if places:
        raise BadText(min(places))
    if not told.letters or len(told.slopes) < len(told.letters):
        raise BadText(length)
    if len(told.told_names) > MOST_LETTERS:
        raise TooMany("letters", MOST_LETTERS)
    many = sum([node[1] for node in told.nodes])
    deep = max([node[2] for node in told.nodes])
    _check_size(many, deep)


def parse_model(text):
    tokens = tokens_of(text)
    told = Told()
    at = 0
    while at < len(tokens):
        at = _read_row(tokens, at, told) + 1
    _check_told(told, len(text))
    slopes = {}
    for (name, _), node in zip(told.slopes, told.nodes):
        slopes[name] = node[0]
    letters = tuple([(name, low, high, slopes[name]) for name, low, high in told.letters])
    return ("model", told.clock, tuple(told.givens), letters)


def parse_expression(text):
    tokens = tokens_of(text)
    at = 0
    while at < len(tokens) and tokens[at][0] == "end":
        at += 1
    if at == len(tokens):
        raise BadText(len(text))
    node, at = _read_expression(tokens, at)
    for token in tokens[at:]:
        _check_kind(token, "end")
    _check_size(node[1], node[2])
    return node[0]
