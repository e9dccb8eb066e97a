"""What the tests share: wrong values of each kind, and how errors are looked for."""

import copy
import inspect

from truecourse.errors import (
    InvalidBox, InvalidExpression, InvalidInterval, InvalidMany, InvalidMatrix, InvalidModel, InvalidPoint,
    InvalidPoly, InvalidRatio, InvalidRoom, InvalidRow, InvalidSet, InvalidSettings, InvalidStep,
    InvalidSystem, InvalidText, TooMany)

ONE = 2 ** 40
MOST = 2 ** 70

# Of other kinds than anything that is asked anywhere (tuples and strings come where they do not fit).
OTHERS = [None, True, False, {}, {1: 2}, b"x", object(), [None]]

RATIOS = OTHERS + [
    1, "1/2", [1, 2], (), (1,), (1, 2, 3), (2, 4), (0, 2), (1, 0), (1, -2), (-2, -3), (True, 2),
    (1, True), (False, 1), ("1", 2), (1, None), ((1,), 2)]
INTERVALS = OTHERS + [
    3, "ab", [0, 1], (), (0,), (0, 1, 2), (1, 0), (False, 1), (0, True), (0, None), ("0", 1),
    (-MOST - 1, 0), (0, MOST + 1), ((0, 1), (0, 1))]
BOXES = OTHERS + [
    3, "x", (), [(0, 1)], (0, 1), ((0, 1),) * 9, ((1, 0),), ((0, True),), ([0, 1],),
    ((0, 1), None), ((0, MOST + 1),), ((0, 1, 2),)]
POINTS = OTHERS + [
    3, "x", (), [(1, 2)], (1, 2), ((1, 2),) * 9, ((2, 4),), ((True, 1),), ([1, 2],),
    ((1, 2), None), ((1, 0),)]
MANY_TERMS = tuple(
    ((i, j, k), (1, 1)) for i in range(9) for j in range(9 - i) for k in range(9 - i - j))
POLYS = OTHERS + [
    3, "x", [], [((1,), (1, 1))], (1,), ((1,),), (((1,), (0, 1)),),
    (((1,), (1, 1)), ((0,), (1, 1))), (((1,), (1, 1)), ((1,), (1, 1))), (((True,), (1, 1)),),
    (((1,), (True, 1)),), (([1], (1, 1)),), ([(1,), (1, 1)],), (((1,), [1, 1]),), (((9,), (1, 1)),),
    (((4, 5), (1, 1)),), (((-1,), (1, 1)),), (((), (1, 1)),), (((0,) * 9, (1, 1)),),
    (((1,), (2, 2)),), (((0, 1), (1, 1)), ((1,), (1, 1))), MANY_TERMS[:61], (((1,), (1, 1), 0),),
    (((1,), (1, 1)), None)]
NAMES = OTHERS + [3, "x", (), [], ["x", "x"], ["x", 1], ["X"], ["to"], [""], [None], ["x" * 13],
                  list("abcdefghi"), ["1x"], ["x y"], ["x", True]]
SYSTEMS = OTHERS + [
    3, "system", (), ["system", ("x",), ((),)], ("systems", ("x",), ((),)), ("system", ("x",)),
    ("system", (), ()), ("system", ["x"], ((),)), ("system", ("x",), [()]), ("system", "x", ((),)),
    ("system", ("x",), ((), ())), ("system", ("x", "x"), ((), ())), ("system", ("to",), ((),)),
    ("system", ("x",), ((((1, 0), (1, 1)),),)), (True, ("x",), ((),)), ("system", ("x",), (None,)),
    ("system", tuple("abcdefghi"), ((),) * 9), ("system", ("x",), ((((True,), (1, 1)),),)),
    ("system", ("x",), ((),), None)]
MATRICES = OTHERS + [
    3, "m", (), [((1, 1),)], ((),), ([(1, 1)],), (((1, 1),), ((1, 1), (1, 1))), (((2, 2),),),
    (((True, 1),),), (((1, 1),) * 9,), (((1, 1),),) * 9, ((1, 1),), (((1, 1),), None)]
SETS = OTHERS + [
    3, "set", (), ["set", ((0, 1),), (((1, 1),),), ((0, 1),)], ("set", ((0, 1),), (((1, 1),),)),
    ("sets", ((0, 1),), (((1, 1),),), ((0, 1),)), ("set", ((0, 1),), (((0, 1),),), ((0, 1),)),
    ("set", ((0, 1), (0, 1)), (((1, 1),),), ((0, 1),)), (None, ((0, 1),), (((1, 1),),), ((0, 1),)),
    ("set", ((0, 1),), (((1, 1),),), ((0, 1), (0, 1))), ("set", ((0, 1),), (((1, 1),),), ((1, 0),)),
    ("set", ((0, 1),), (((1, 1), (0, 1)),), ((0, 1),)), ("set", ((0, 2),), (((1, 1),),), ((0, 1),)),
    ("set", ((0, 1), (0, 1)), (((1, 1), (2, 1)), ((2, 1), (4, 1))), ((0, 1), (0, 1))),
    ("set", ((True, 1),), (((1, 1),),), ((0, 1),)), ("set", ((0, 1),), (((1, 1),),), ((0, True),))]
TEXTS = OTHERS + [3, (), ["a"], ("a",)]
X = ("name", "x")
EXPRESSIONS = OTHERS + [
    3, "x", (), ("x",), ["name", "x"], ("number",), ("number", 3), ("number", (-1, 2)), ("number", (2, 4)),
    ("number", [1, 2]), ("number", (True, 1)), ("number", (1, True)), ("number", (1, 1), (1, 1)), ("name",),
    ("name", "X"), ("name", "exp"), ("name", None), ("name", "x", "y"), ("name", ""), ("name", "x" * 13),
    ("plus", X), ("plus", X, X, X), ("plus", X, None), ("plus", None, X), ["plus", X, X], ("plus", X, ["name", "x"]),
    ("Plus", X, X), (None, X, X), (True, X), ("neg",), ("neg", X, X), ("neg", "x"), ("power", X), ("power", X, 9),
    ("power", X, -1), ("power", X, True), ("power", X, False), ("power", X, (1, 1)), ("power", X, None),
    ("power", X, X), ("power", None, 2), ("call", "tan", X), ("call", "exp"), ("call", X, "exp"),
    ("call", None, X), ("call", ["exp"], X), ("call", "exp", X, X), ("call", "exp", None), ("exp", X),
    ("over", X, ("number", (0, True))), ("times", X, ("times", X, ("neg", ("name", "to"))))]


def model_of(slope, time=None, givens=()):
    """A model with the letter x, begun at 1."""
    return ("model", time, givens, (("x", (1, 1), (1, 1), slope),))


MODELS = OTHERS + [
    3, "model", (), list(model_of(X)), ("models",) + model_of(X)[1:], (None,) + model_of(X)[1:], model_of(X)[:3],
    model_of(X) + (None,), model_of(X, "X"), model_of(X, True), model_of(X, "x"), model_of(X, ["t"]),
    model_of(X, givens=[]), model_of(X, givens=None), model_of(X, givens=("g",)), model_of(X, givens=(("g", (1, 1)),)),
    model_of(X, givens=(("x", (1, 1), (1, 1)),)), model_of(X, givens=(("g", (1, 1), (0, 1)),)),
    model_of(X, givens=(["g", (1, 1), (1, 1)],)), model_of(X, givens=(("g", (1, 1), (1, 1), X),)),
    model_of(X, givens=(("g", (1, 1), (2, 2)),)), model_of(X, givens=(("g", (1, 1), None),)), model_of(X, givens=(("g", 1, 1),)), model_of(X, givens=(("g", (True, 1), (1, 1)),)),
    model_of(X, "g", (("g", (1, 1), (1, 1)),)), model_of(("name", "y")), model_of(("neg", ("name", "t"))),
    model_of(None), model_of(("number", (True, 1))), ("model", None, (), ()), ("model", None, (), [("x", (1, 1), (1, 1), X)]),
    ("model", None, (), (("x", (1, 1), (1, 1)),)), ("model", None, (), (("x", (2, 1), (1, 1), X),)),
    ("model", None, (), (("x", (0, 2), (1, 1), X),)), ("model", None, (), (("x", (1, 1), (1, 1), X),) * 2),
    ("model", None, (), (("time", (1, 1), (1, 1), ("number", (1, 1))),)), ("model", None, (), ("x",)),
    ("model", None, (), tuple((name, (1, 1), (1, 1), X) for name in "xabcdefgh")),
    model_of(X, "t", tuple((name, (1, 1), (1, 1)) for name in "abcdefg"))]

GOOD_SETTINGS = ("settings", "box", 2, ONE, 1, 60, ONE, 4)


def with_part(value, place, part):
    """A tuple with one part put in the place of another one."""
    return value[:place] + (part,) + value[place + 1:]


SETTINGS = OTHERS + [3, "settings", (), list(GOOD_SETTINGS), GOOD_SETTINGS[:7], GOOD_SETTINGS + (1,)] + [
    with_part(GOOD_SETTINGS, place, part) for place, part in [
        (0, "setting"), (0, None), (0, True), (1, "Box"), (1, ["box"]), (1, None), (1, True), (2, 0), (2, 9), (2, True),
        (2, "2"), (3, 0), (3, 8 * ONE + 1), (3, True), (3, None), (4, 0), (4, ONE + 1), (4, True), (4, None), (5, 0), (5, 61),
        (5, True), (6, 0), (6, 2 ** 60 + 1), (6, True), (6, (ONE,)), (7, -1), (7, 41), (7, True), (7, False), (7, None)]]


def counts_wrong(least, most):
    """What is no INTEGER from the least to the most."""
    return OTHERS + [least - 1, most + 1, str(least), [least], (least,), -(10 ** 30), 10 ** 30]


RATIO = (InvalidRatio, RATIOS)
INTERVAL = (InvalidInterval, INTERVALS)
BOX = (InvalidBox, BOXES)
POINT = (InvalidPoint, POINTS)
POLY = (InvalidPoly, POLYS)
SYSTEM = (InvalidSystem, SYSTEMS)
MATRIX = (InvalidMatrix, MATRICES)
ROW = (InvalidRow, POINTS)
SET = (InvalidSet, SETS)
TEXT = (InvalidText, TEXTS)
EXPRESSION = (InvalidExpression, EXPRESSIONS)
MODEL = (InvalidModel, MODELS)
SETTING = (InvalidSettings, SETTINGS)
STEP = (InvalidStep, counts_wrong(1, 8 * ONE))
ORDER = (InvalidMany, counts_wrong(1, 8))
ROOM = (InvalidRoom, counts_wrong(0, 40))


def caught(error, call, *values, **named):
    """The error that a call raises, which must be of just this class."""
    try:
        told = call(*values, **named)
    except error as found:
        assert found.__class__ is error, found.__class__
        return found
    raise AssertionError(f"{call.__name__}{values!r} told {told!r}, not {error.__name__}")


def refuses(call, error, attributes, *values):
    """The call must raise this error, with these attributes, by position and by names."""
    names = list(inspect.signature(call).parameters)
    for found in (caught(error, call, *values), caught(error, call, **dict(zip(names, values)))):
        for name, value in attributes.items():
            held = getattr(found, name)
            assert held is value or held == value, (call.__name__, name, held, value)
            assert held.__class__ is value.__class__, (call.__name__, name, held, value)


def too_many(call, what, limit, *values):
    refuses(call, TooMany, {"what": what, "limit": limit}, *values)


def check_calls(test, function, parameters):
    """Of each parameter (name, good value, (error, wrong values)) all that is told of errors.

    The error of the first wrong one is raised, whatever stands behind it; calls by position and
    by name tell the same; nothing that is passed is changed.
    """
    names = [name for name, _, _ in parameters]
    test.assertEqual(list(inspect.signature(function).parameters), names)
    good = [value for _, value, _ in parameters]
    before = copy.deepcopy(good)
    told = function(*good)
    test.assertEqual(function(**dict(zip(names, good))), told)
    test.assertEqual(good, before)
    for k, (name, _, (error, wrongs)) in enumerate(parameters):
        for wrong in wrongs:
            values = good[:k] + [wrong] + good[k + 1:]
            with test.subTest(function=function.__name__, parameter=name, wrong=wrong):
                refuses(function, error, {"value": wrong}, *values)
        behind = [(other[1][0] if other[1] else value) for _, value, other in parameters[k + 1:]]
        if wrongs and behind:
            with test.subTest(function=function.__name__, first=name):
                refuses(function, error, {"value": wrongs[0]}, *good[:k], wrongs[0], *behind)
