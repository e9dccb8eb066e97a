"""[135] to [138]: pieces of machines' courses, and what is told by them."""

import unittest
from decimal import Decimal, localcontext
from fractions import Fraction
from random import Random

from tests import formulas
from tests.courses import CLOCK, STILL, TURNS, decimal, lies_in, starts, system
from tests.decimals import exp, log
from tests.support import (
    BOXES, MOST, ONE, OTHERS, SETTING, check_calls, counts_wrong, refuses, with_part)
from tests.test_lags import sign
from tests.test_machines import (
    BALL, DOWN, LETTER, MACHINES, MIXED, MODE, THERMOSTAT, TURNING, UP, WAY, poly, told as told_by)
from tests.test_runs import TURNED
from truecourse.boxes import box_within
from truecourse.errors import InvalidBox, InvalidSwitched, InvalidTime, TooMany
from truecourse.narrowing import is_narrowing, narrowed
from truecourse.ranges import best_range
from truecourse.runners import run as run_to
from truecourse.runs import box_at, end_time, is_run
from truecourse.settings import plain_settings
from truecourse.steps import is_step
from truecourse.switching import is_switched, switched, switched_box, switched_time, taken_ways
from truecourse.terms import terms_flow

POINT = ((ONE, ONE),)
PAPER = ("step", POINT, 2 * ONE, 1, ((-ONE, ONE),), ((-ONE, -ONE),))
SWITCH = ("switch", 0, PAPER, None, ((-ONE, 3 * ONE),), 1)
TOLD = ("switched", TURNING, 0, POINT, [SWITCH], ("whole",))
TICK = ("step", POINT, ONE // 2, 1, ((ONE // 2, ONE),), ((ONE // 2, ONE // 2),))
STAY = ("stay", ("run", DOWN, POINT, (TICK,)))
LATER = ("step", ((ONE // 2, ONE // 2),), ONE, 1, ((-ONE // 2, ONE // 2),), ((-ONE // 2, -ONE // 2),))
NARROWING = ("narrowing", LETTER, (0, 0), ((-ONE, ONE),), ((0, "low", -9), (0, "high", 8)), ((-9, 8),))
BOX = (InvalidBox, BOXES + [POINT * 2])


def with_pieces(*pieces):
    return with_part(TOLD, 4, list(pieces))


def with_switch(place, part):
    return with_pieces(with_part(SWITCH, place, part))


FORMS = OTHERS + [3, "switched", (), list(TOLD), TOLD[:5], TOLD + (1,), TOLD[1:]] + [
    with_part(TOLD, place, part) for place, part in [
        (0, "switch"), (0, None), (2, 1), (2, False), (2, None), (3, ((ONE, ONE + 1),)), (3, ((True, ONE),)), (3, None), (4, None), (4, {}),
        (4, SWITCH), (4, [None]), (4, [()]), (4, [list(SWITCH)]), (4, [("switch",)]), (4, [("stay",)]), (4, [SWITCH, SWITCH]), (4, [SWITCH, STAY]),
        (4, [("stay", None)]), (4, [("stay", ("run", DOWN, POINT, ()))]), (4, [("stay", ("run", UP, POINT, ()))]), (4, [("stay", TURNED)]),
        (4, [STAY + (1,)]), (4, [("Stay", STAY[1])]), (4, [[STAY]]), (4, "x"),
        (5, None), (5, ()), (5, ("Whole",)), (5, ["whole"]), (5, "whole"), (5, ("whole", "step")), (5, ("perhaps", "step")), (5, ("spent",)),
        (5, ("spent", "time")), (5, ("spent", None)), (5, ("spent", "width", "step")), (5, (None,)), (5, (True,))]] + [
    with_part(TOLD, 1, part) for part in (None, THERMOSTAT, TURNING[:2], "x", with_part(TURNING, 2, ()))] + [
    with_switch(place, part) for place, part in [
        (0, "Switch"), (0, None), (1, 1), (1, -1), (1, False), (1, None), (2, None), (2, list(PAPER)), (2, with_part(PAPER, 3, True)),
        (2, with_part(PAPER, 1, ((ONE, ONE), (0, 0)))), (2, with_part(PAPER, 5, ((-ONE, 0),))), (2, with_part(PAPER, 1, ((ONE - 1, ONE - 1),))),
        (2, with_part(PAPER, 2, ONE)), (2, TURNED[3][0]), (3, False), (3, ()), (3, with_part(NARROWING, 0, "x")), (3, list(NARROWING)),
        (3, with_part(NARROWING, 1, poly("2*x", "x"))), (3, with_part(NARROWING, 2, (0, 1))), (3, with_part(NARROWING, 3, ((-ONE, ONE + 1),))),
        (3, with_part(NARROWING, 5, ((-9, 7),))), (4, None), (4, ((-ONE + 1, 3 * ONE),)), (4, ((-ONE, 3 * ONE - 1),)), (4, POINT * 2),
        (4, [(-ONE, 3 * ONE)]), (4, ((-ONE, 3 * ONE), (0, 0))), (5, 0), (5, 9), (5, True), (5, None)]] + [
    # True and False stand for 1 and 0 nowhere, be the values equal.
    with_part(TOLD, 1, with_part(TURNING, 2, (with_part(WAY, place, part),))) for place, part in [(0, False), (3, True)]]
# Values that are no SWITCHED of their own machine, mode and box.
LOST = [("switched", TURNING, mode, box, [], ("whole",)) for mode, box in [
    (0, POINT * 2), (2, POINT), (-1, POINT), (True, POINT), (0, ((False, True),)), (0, None), (None, POINT), (0, [(ONE, ONE)])]]
VALUE = (InvalidSwitched, FORMS + LOST)


def plain(kind="box", many=3, first=ONE // 4, least=ONE // 1024, most=60, widest=MOST >> 10, room=20):
    return ("settings", kind, many, first, least, most, widest, room)


def is_free(own, guard, word, box):
    return sign(guard, box) is not None or sign(terms_flow(own[2], guard), box) == {"up": "below", "down": "above"}[word]


def all_free(machine, mode, box, besides=None):
    own = machine[1][mode]
    return all(is_free(own, guard, word, box) for w, (first, guard, word, _, _) in enumerate(machine[2]) if first == mode and w != besides)


def crosses(own, guard, paper):
    first, last, slope = sign(guard, paper[1]), sign(guard, paper[5]), sign(terms_flow(own[2], guard), paper[4])
    if (first, last, slope) == ("below", "above", "above"):
        return "up"
    return "down" if (first, last, slope) == ("above", "below", "below") else None


def behind(machine, mode, box, piece):
    """The mode and the box behind a piece, None if it does not fit, by the words of [136]."""
    own = machine[1][mode]
    if piece[0] == "stay":
        run = piece[1]
        if not is_run(run) or not run[3] or run[1] != own or not box_within(box, run[2]):
            return None
        if not all(all_free(machine, mode, paper[4]) for paper in run[3]):
            return None
        return (mode, box_at(run, end_time(run)))
    _, w, paper, narrowing, caught, many = piece
    first, guard, word, target, resets = machine[2][w]
    if first != mode or not is_step(own, paper) or not box_within(box, paper[1]):
        return None
    if crosses(own, guard, paper) != word or not all_free(machine, mode, paper[4], w):
        return None
    if narrowing is not None and not (is_narrowing(narrowing) and narrowing[1:4] == (guard, (0, 0), paper[4])):
        return None
    begun = reset_of(piece, resets)
    polys = machine[1][target][2]
    if not formulas.holds(polys, begun, paper[2], caught) or not all_free(machine, target, caught):
        return None
    return (target, formulas.during(polys, begun, 0, paper[2], many, caught))


def reset_of(piece, resets):
    box = piece[2][4] if piece[3] is None else piece[3][5]
    return tuple(best_range(own, box) for own in resets)


def length_of(piece):
    return end_time(piece[1]) if piece[0] == "stay" else piece[2][2]


def boxes_come_to(machine, mode, box, pieces):
    """All tuples (mode, box, time, steps so far) of boxes come to, those within stays too."""
    found = [(mode, box, 0, 0)]
    time = steps = 0
    for piece in pieces:
        if piece[0] == "stay":
            run = piece[1]
            for k in range(len(run[3])):
                time, steps = time + run[3][k][2], steps + 1
                beginning = run[:3] + (run[3][:k + 1],)
                found.append((mode, box_at(beginning, end_time(beginning)), time, steps))
        else:
            mode, box = behind(machine, found[-1][0], found[-1][1], piece)
            time, steps = time + piece[2][2], steps + 1
            found.append((mode, box, time, steps))
    return found


def trial(polys, box, step):
    try:
        found = formulas.trial(polys, box, step)
        return found if formulas.holds(polys, box, step, found) else None
    except formulas.Beyond:
        return None


def plain_switch_fits(machine, mode, box, left, settings):
    """Whether the switch that the document calls plain fits at a box come to."""
    own, step, many = machine[1][mode], min(settings[3], left), settings[2]
    held = trial(own[2], box, step)
    if held is None:
        return False
    for w, (first, guard, word, target, resets) in enumerate(machine[2]):
        if first != mode:
            continue
        try:
            paper = ("step", box, step, many, held, formulas.end(own[2], box, step, many, held))
            begun = tuple(best_range(part, held) for part in resets)
            caught = trial(machine[1][target][2], begun, step)
            if caught is not None and behind(machine, mode, box, ("switch", w, paper, None, caught, many)) is not None:
                return True
        except (formulas.Beyond, TooMany):
            continue
    return False


def must_go_on(machine, mode, box, left, settings):
    """Whether it must, unless "width" or "steps" holds."""
    if settings[7] == 0:
        return False
    own, step = machine[1][mode], min(settings[4], left)
    held = trial(own[2], box, step)
    try:
        return held is not None and all_free(machine, mode, held) and formulas.end(own[2], box, step, settings[2], held) is not None
    except (formulas.Beyond, TooMany):
        return False


def check_switched(test, machine, mode, box, time, settings):
    """That what is told is right, by the document's own words."""
    told = switched(machine, mode, box, time, settings)
    test.assertEqual(told[:4], ("switched", machine, mode, box))
    pieces, end = told[4:]
    test.assertIsInstance(pieces, list)
    test.assertIs(is_switched(machine, mode, box, told), True)
    come_to = boxes_come_to(machine, mode, box, pieces)
    _, kind, many, first, least, most, widest, room = settings
    passed = 0
    for piece in pieces:
        papers = piece[1][3] if piece[0] == "stay" else [piece[2]]
        for paper in papers:
            left = time - passed
            test.assertTrue(min(least, left) <= paper[2] <= min(first, left))
            test.assertEqual(paper[3], many)
            test.assertEqual(paper[0], "carried" if piece[0] == "stay" and kind == "set" else "step")
            passed += paper[2]
    test.assertEqual(switched_time(told), passed)
    test.assertTrue(len(pieces) <= 120 and come_to[-1][3] <= most)
    last_mode, last_box, last_time, steps = come_to[-1]
    left = time - last_time
    is_wide = any(high - low > widest for low, high in last_box)
    if end == ("whole",):
        test.assertEqual(left, 0)
    elif is_wide:
        test.assertEqual(end, ("spent", "width"))
    elif steps >= most:
        test.assertEqual(end, ("spent", "steps"))
    else:
        test.assertIn(end, [("perhaps",), ("spent", "step"), ("spent", "grains")])
        test.assertGreater(left, 0)
        test.assertFalse(must_go_on(machine, last_mode, last_box, left, settings))
        if room == 0:
            test.assertEqual(end, ("spent", "step"))
    switch_begins = [begun for _, begun, _ in taken_ways(told)]
    for own_mode, own_box, own_time, own_steps in come_to:
        if own_time == time or own_steps >= most or room == 0 or any(high - low > widest for low, high in own_box):
            continue
        if plain_switch_fits(machine, own_mode, own_box, time - own_time, settings):
            test.assertTrue(any(begun >= own_time for begun in switch_begins), (own_time, switch_begins))
    return told


class TestJudge(unittest.TestCase):
    def test_errors(self):
        check_calls(self, is_switched, [("machine", TURNING, MACHINES), ("mode", 0, MODE), ("box", POINT, BOX), ("value", TOLD, (None, []))])
        check_calls(self, switched, [
            ("machine", TURNING, MACHINES), ("mode", 0, MODE), ("box", POINT, BOX), ("time", ONE, (InvalidTime, counts_wrong(0, 64 * ONE))),
            ("settings", plain(), SETTING)])
        for function in (switched_time, taken_ways):
            check_calls(self, function, [("value", TOLD, VALUE)])
        check_calls(self, switched_box, [("value", TOLD, VALUE), ("time", 0, (InvalidTime, counts_wrong(0, 2 * ONE)))])
        refuses(switched, InvalidBox, {"value": POINT}, MIXED, 1, POINT, ONE, plain())

    def test_forms(self):
        for value in [TOLD, with_part(TOLD, 4, (SWITCH,)), with_pieces(), with_pieces(STAY), with_switch(3, NARROWING),
                      with_pieces(STAY, with_part(SWITCH, 2, LATER)[:4] + (((-ONE, 3 * ONE),), 8))]:
            self.assertIs(is_switched(TURNING, 0, POINT, value), True, value)
        for value in FORMS:
            self.assertIs(is_switched(TURNING, 0, POINT, value), False, value)
        for end in [("whole",), ("perhaps",), ("spent", "width"), ("spent", "steps"), ("spent", "step"), ("spent", "grains")]:
            self.assertIs(is_switched(TURNING, 0, POINT, with_part(TOLD, 5, end)), True)

    def test_of_these(self):
        self.assertIs(is_switched(TURNING, 1, POINT, TOLD), False)
        self.assertIs(is_switched(TURNING, 0, ((ONE, ONE + 1),), TOLD), False)
        self.assertIs(is_switched(with_part(TURNING, 2, ()), 0, POINT, TOLD), False)
        self.assertIs(is_switched(TURNING, 1, POINT, with_part(with_pieces(), 2, 1)), True)
        self.assertIs(is_switched(TURNING, 1, POINT, with_part(with_pieces(), 2, True)), False)
        small = with_part(with_pieces(), 3, ((0, 1),))
        self.assertIs(is_switched(TURNING, 0, ((0, 1),), small), True)
        for box in (((False, 1),), ((0, True),), [(0, 1)]):
            self.assertIs(is_switched(TURNING, 0, ((0, 1),), with_part(small, 3, box)), False)
        for value in LOST:
            self.assertIs(is_switched(TURNING, 0, POINT, value), False)
        self.assertEqual(switched_time(with_part(with_pieces(), 2, 1)), 0)

    def test_boxes_within(self):
        """Each piece may begin in a wider box than the one come to, not in a narrower one."""
        for begin, told in [((ONE, ONE), True), ((ONE - 3, ONE + 3), True), ((ONE + 1, ONE + 1), False), ((ONE - 1, ONE - 1), False)]:
            paper = ("step", (begin,), 2 * ONE, 1, ((-2 * ONE, 2 * ONE),), ((begin[0] - 2 * ONE, begin[1] - 2 * ONE),))
            switch = ("switch", 0, paper, None, ((-2 * ONE, 4 * ONE),), 1)
            self.assertIs(is_switched(TURNING, 0, POINT, with_pieces(switch)), told, begin)
            tick = ("step", (begin,), ONE // 2, 1, ((1, 2 * ONE),), ((0, ONE),))
            self.assertIs(is_switched(TURNING, 0, POINT, with_pieces(("stay", ("run", DOWN, (begin,), (tick,))))), told, begin)
        # Behind a stay the box at its run's end is the present one.
        for end, told in [(ONE // 2, True), (ONE // 2 - 1, False), (ONE // 2 + 1, False)]:
            tick = with_part(TICK, 5, ((min(end, ONE // 2), max(end, ONE // 2)),))
            stay = ("stay", ("run", DOWN, POINT, (tick,)))
            switch = ("switch", 0, LATER, None, ((-ONE, 3 * ONE),), 1)
            self.assertIs(is_switched(TURNING, 0, POINT, with_pieces(stay, switch)), told)
        # Behind a switch the late box.
        for low, high, told in [(-ONE, 3 * ONE, True), (-ONE, 3 * ONE - 1, False), (1 - ONE, 3 * ONE, False), (-ONE - 5, 4 * ONE, True)]:
            tick = ("step", ((low, high),), ONE, 1, ((low, high + ONE),), ((low + ONE, high + ONE),))
            stay = ("stay", ("run", UP, ((low, high),), (tick,)))
            self.assertIs(is_switched(TURNING, 0, POINT, with_pieces(SWITCH, stay)), told)

    def test_stays(self):
        """On each held box all ways of the mode are free: "down" they are where the guard is above."""
        for low, told in [(1, True), (0, False), (-1, False)]:
            tick = with_part(TICK, 4, ((low, ONE),))
            self.assertIs(is_switched(TURNING, 0, POINT, with_pieces(("stay", ("run", DOWN, POINT, (tick,))))), told)
        # "up" it is free by its slope, wherever it is.
        up_way = with_part(TURNING, 2, (with_part(WAY, 2, "up"),))
        tick = with_part(TICK, 4, ((-9 * ONE, ONE),))
        value = with_part(with_pieces(("stay", ("run", DOWN, POINT, (tick,)))), 1, up_way)
        self.assertIs(is_switched(up_way, 0, POINT, value), True)
        # The second paper's held box counts, too.
        second = ("step", ((ONE // 2, ONE // 2),), ONE // 4, 1, ((0, ONE),), ((ONE // 4, ONE // 4),))
        for low, told in [(1, True), (0, False)]:
            run = ("run", DOWN, POINT, (TICK, with_part(second, 4, ((low, ONE),))))
            self.assertIs(is_run(run), True)
            self.assertIs(is_switched(TURNING, 0, POINT, with_pieces(("stay", run))), told)

    def test_sets(self):
        run = run_to(DOWN, POINT, ONE // 2, plain_settings("set", 2))[1]
        stay = ("stay", run)
        value = with_pieces(stay)
        self.assertIs(is_switched(TURNING, 0, POINT, value), True)
        self.assertEqual(switched_time(value), ONE // 2)
        self.assertEqual(switched_box(value, ONE // 3), [(0, box_at(run, ONE // 3))])
        self.assertEqual(switched_box(value, ONE // 2), [(0, box_at(run, ONE // 2))])

    def test_other_ways(self):
        # Another way of the mode must be free during a switch, of the mode to on the box that catches.
        for guard, word, told in [("x + 2", "down", True), ("x + 1", "down", False), ("x", "up", True), ("x - 1/2", "down", False), ("x", "down", False)]:
            machine = with_part(TURNING, 2, (WAY, (0, poly(guard, "x"), word, 0, (LETTER,))))
            self.assertIs(is_switched(machine, 0, POINT, with_part(TOLD, 1, machine)), told, (guard, word))
        for guard, word, told in [("x + 2", "up", True), ("x + 1", "up", False), ("x", "down", True), ("x - 4", "up", True), ("x - 3", "up", False)]:
            machine = with_part(TURNING, 2, (WAY, (1, poly(guard, "x"), word, 0, (LETTER,))))
            self.assertIs(is_switched(machine, 0, POINT, with_part(TOLD, 1, machine)), told, (guard, word))

    def test_ways_of_the_mode(self):
        # The way must be one from the present mode, though all else would fit.
        far = with_part(TURNING, 2, (WAY, (1, poly("x + 9", "x"), "down", 1, (LETTER,))))
        for w, told in [(0, True), (1, False), (2, False)]:
            self.assertIs(is_switched(far, 0, POINT, with_part(with_switch(1, w), 1, far)), told)
        # From the second mode it is, from the first one, though its system is the same, it isn't.
        like = ("machine", (DOWN, DOWN, UP), ((1, LETTER, "down", 2, (LETTER,)),))
        for mode, told in [(1, True), (0, False)]:
            self.assertIs(is_switched(like, mode, POINT, ("switched", like, mode, POINT, [SWITCH], ("whole",))), told)

    def test_words(self):
        # The paper must cross as the way's word tells.
        for guard, word, told in [("x", "down", True), ("x", "up", False), ("-x", "up", True), ("-x", "down", False), ("x - 1", "down", False)]:
            machine = with_part(TURNING, 2, (with_part(with_part(WAY, 1, poly(guard, "x")), 2, word),))
            self.assertIs(is_switched(machine, 0, POINT, with_part(TOLD, 1, machine)), told, (guard, word))

    def test_narrowings(self):
        value = with_switch(3, NARROWING)
        self.assertIs(is_switched(TURNING, 0, POINT, value), True)
        self.assertEqual(switched_box(value, 2 * ONE), [(1, ((-9, 8 + 2 * ONE),))])
        self.assertEqual(switched_box(TOLD, 2 * ONE), [(1, ((-ONE, 3 * ONE),))])
        # Narrowed, less is enough to catch.
        narrow = with_part(with_part(SWITCH, 3, NARROWING), 4, ((-9, 8 + 2 * ONE),))
        self.assertIs(is_switched(TURNING, 0, POINT, with_pieces(narrow)), True)
        self.assertIs(is_switched(TURNING, 0, POINT, with_pieces(with_part(narrow, 4, ((-8, 8 + 2 * ONE),)))), False)
        self.assertIs(is_switched(TURNING, 0, POINT, with_pieces(with_part(narrow, 3, None))), False)

    def test_120_pieces(self):
        still = ("machine", (STILL,), ())
        stay = ("stay", ("run", STILL, ((0, 0),), (("step", ((0, 0),), 5, 1, ((0, 0),), ((0, 0),)),)))
        for many, told in [(0, True), (1, True), (120, True), (121, False)]:
            value = ("switched", still, 0, ((0, 0),), [stay] * many, ("perhaps",))
            self.assertIs(is_switched(still, 0, ((0, 0),), value), told, many)
            if told:
                self.assertEqual(switched_time(value), 5 * many)

    def test_beyond(self):
        square = poly("x^2 + 1", "x")
        machine = with_part(TURNING, 2, (WAY, (0, square, "up", 0, (LETTER,))))
        tick = with_part(TICK, 4, ((1, 2 ** 60),))
        stay = ("stay", ("run", DOWN, POINT, (tick,)))
        self.assertIs(is_switched(TURNING, 0, POINT, with_pieces(stay)), True)
        self.assertIs(is_switched(machine, 0, POINT, with_part(with_pieces(stay), 1, machine)), False)
        reset = with_part(TURNING, 2, (with_part(WAY, 4, (poly("1000000000*x", "x"),)),))
        self.assertIs(is_switched(reset, 0, POINT, with_part(TOLD, 1, reset)), False)

    def test_judge_goes_by_the_words(self):
        random = Random(136)
        told_of = []
        for _ in range(150):
            guard = poly(random.choice(["x", "x", "x - 1/4", "x + 3"]), "x")
            more = (random.choice([0, 1]), poly(random.choice(["x + 2", "x", "x - 3", "x + 9/10"]), "x"), random.choice(["up", "down"]), 0, (LETTER,))
            machine = with_part(TURNING, 2, (with_part(WAY, 1, guard), more))
            cut = narrowed(guard, (0, 0), PAPER[4], random.randint(0, 4))
            switch = ("switch", random.choice([0, 0, 0, 1]), random.choice([PAPER, PAPER, TICK]), random.choice([None, NARROWING, cut]),
                      random.choice([((-ONE, 3 * ONE),), ((-9, 9 + 2 * ONE),), ((-5 * ONE, 5 * ONE),)]), random.randint(1, 8))
            wanted = behind(machine, 0, POINT, switch) is not None
            told_of.append(wanted)
            self.assertIs(is_switched(machine, 0, POINT, with_part(with_pieces(switch), 1, machine)), wanted)
        self.assertTrue(15 < sum(told_of) < 135)


class TestTold(unittest.TestCase):
    def test_times_and_ways(self):
        late = with_part(SWITCH, 2, LATER)
        both = with_pieces(STAY, late)
        self.assertEqual([switched_time(value) for value in (TOLD, with_pieces(), with_pieces(STAY), both)], [2 * ONE, 0, ONE // 2, 3 * ONE // 2])
        self.assertEqual([taken_ways(value) for value in (TOLD, with_pieces(), with_pieces(STAY), both)],
                         [[(0, 0, 2 * ONE)], [], [], [(0, ONE // 2, 3 * ONE // 2)]])

    def test_boxes(self):
        self.assertEqual(switched_box(with_pieces(), 0), [(0, POINT)])
        refuses(switched_box, InvalidTime, {"value": 1}, with_pieces(), 1)
        self.assertEqual(switched_box(with_pieces(STAY), 0), [(0, POINT)])
        # A switch's begin, within, its end.
        self.assertEqual(switched_box(TOLD, 0), [(0, POINT), (1, ((-ONE, ONE),))])
        self.assertEqual(switched_box(TOLD, 1), [(0, ((ONE - 1, ONE - 1),)), (1, ((-ONE, ONE + 1),))])
        self.assertEqual(switched_box(TOLD, ONE), [(0, ((0, 0),)), (1, ((-ONE, 2 * ONE),))])
        self.assertEqual(switched_box(TOLD, 2 * ONE), [(1, ((-ONE, 3 * ONE),))])
        # Where one piece ends and another one begins the first one tells.
        both = with_pieces(STAY, with_part(SWITCH, 2, LATER))
        self.assertEqual(switched_box(both, ONE // 2), [(0, ((ONE // 2, ONE // 2),))])
        self.assertEqual(switched_box(both, ONE // 2 + 1), [(0, ((ONE // 2 - 1, ONE // 2 - 1),)), (1, ((-ONE // 2, ONE // 2 + 1),))])
        self.assertEqual(switched_box(both, 3 * ONE // 2), [(1, ((-ONE // 2, 3 * ONE // 2),))])
        more = ("stay", ("run", UP, ((-ONE, 3 * ONE),), (("step", ((-ONE, 3 * ONE),), ONE, 1, ((-ONE, 4 * ONE),), ((0, 4 * ONE),)),)))
        longer = with_pieces(SWITCH, more)
        self.assertEqual(switched_box(longer, 2 * ONE), [(1, ((-ONE, 3 * ONE),))])
        self.assertEqual(switched_box(longer, 2 * ONE + 5), [(1, ((-ONE + 5, 3 * ONE + 5),))])
        self.assertEqual(switched_box(longer, 3 * ONE), [(1, ((0, 4 * ONE),))])
        # The run's own start box, if it is wider, is told where it begins; the first box of a switch too.
        wide = ("step", ((ONE - 5, ONE + 5),), 2 * ONE, 1, ((-2 * ONE, 2 * ONE),), ((-ONE - 5, -ONE + 5),))
        value = with_pieces(("switch", 0, wide, None, ((-2 * ONE, 4 * ONE),), 1))
        self.assertEqual(switched_box(value, 0)[0], (0, ((ONE - 5, ONE + 5),)))

    def test_by_the_formulas(self):
        told = switched(THERMOSTAT, 0, ((ONE, ONE + ONE // 100),), 2 * ONE, plain("set", 4))
        begun, mode, box = 0, 0, told[3]
        random = Random(138)
        for piece in told[4]:
            length = length_of(piece)
            for at in [1, length - 1, random.randint(1, length - 1)]:
                if piece[0] == "stay":
                    wanted = [(mode, box_at(piece[1], at))]
                else:
                    _, w, paper, _, caught, many = piece
                    _, _, _, target, resets = THERMOSTAT[2][w]
                    wanted = [(mode, formulas.during(THERMOSTAT[1][mode][2], paper[1], at, at, paper[3], paper[4])),
                              (target, formulas.during(THERMOSTAT[1][target][2], reset_of(piece, resets), 0, at, many, caught))]
                self.assertEqual(switched_box(told, begun + at), wanted)
            mode, box = behind(THERMOSTAT, mode, box, piece)
            begun += length
            self.assertEqual(switched_box(told, begun), [(mode, box)])


class TestSwitched(unittest.TestCase):
    def test_whole(self):
        for kind in ("box", "set"):
            for time in (0, 1, ONE // 2, ONE - 9, 2 * ONE, 3 * ONE + 7):
                told = check_switched(self, TURNING, 0, POINT, time, plain(kind))
                self.assertEqual(told[5], ("whole",))
                self.assertEqual(len(taken_ways(told)), 1 if time > ONE else 0)
        self.assertEqual(switched(TURNING, 0, POINT, 0, plain()), ("switched", TURNING, 0, POINT, [], ("whole",)))

    def test_spent(self):
        wide = ((0, 9 * ONE),)
        for settings, box, told in [
                (plain(widest=8 * ONE), wide, ("spent", "width")), (plain(widest=8 * ONE, room=0), wide, ("spent", "width")),
                (plain(most=2), POINT, ("spent", "steps")), (plain(room=0), POINT, ("spent", "step")), (plain(widest=9 * ONE, room=0), wide, ("spent", "step"))]:
            self.assertEqual(check_switched(self, TURNING, 0, box, 2 * ONE, settings)[5], told)
        burst = ("machine", (system("x", [((2,), (1, 1))]),), ())
        self.assertEqual(check_switched(self, burst, 0, POINT, 4 * ONE, plain(most=60))[5][0], "spent")
        self.assertEqual(check_switched(self, burst, 0, ((0, 2 ** 59),), ONE, plain())[5], ("spent", "grains"))
        self.assertEqual(check_switched(self, burst, 0, ((0, 2 ** 50),), ONE, plain())[5], ("spent", "step"))
        # With the time that is to pass spent, nothing else is.
        self.assertEqual(check_switched(self, TURNING, 0, wide, 0, plain(widest=1, room=0))[5], ("whole",))

    def test_perhaps(self):
        # The guard is 0 where the time ends, or begins; it is only touched; two ways are taken at one time.
        self.assertEqual(check_switched(self, TURNING, 0, POINT, ONE, plain())[5], ("perhaps",))
        self.assertEqual(check_switched(self, TURNING, 0, ((0, ONE),), 2 * ONE, plain())[5], ("perhaps",))
        touching = ("machine", (system("xt", [((0, 0), (1, 1)), ((0, 1), (-1, 1))], [((0, 0), (1, 1))]),), (
            (0, poly("x - 1/2", "x", "t"), "up", 0, (poly("x", "x", "t"), poly("t", "x", "t"))),))
        self.assertEqual(check_switched(self, touching, 0, ((0, 0), (0, 0)), 2 * ONE, plain())[5], ("perhaps",))
        twice = with_part(TURNING, 2, (WAY, with_part(WAY, 3, 0)))
        told = check_switched(self, twice, 0, POINT, 2 * ONE, plain())
        self.assertEqual(told[5], ("perhaps",))
        self.assertEqual(taken_ways(told), [])

    def test_plain_switches(self):
        """Where the plain switch fits there is one, at this time or later, also with few steps."""
        for most in (1, 2, 3, 4, 5, 6, 7, 12, 60):
            for first in (ONE // 4, ONE, 4 * ONE):
                told = check_switched(self, TURNING, 0, ((ONE - 9, ONE),), 4 * ONE, plain(most=most, first=first, least=ONE // 64))
                if first == 4 * ONE:
                    self.assertEqual(len(taken_ways(told)), 1)
        # With the one step that may be there is no stay, but a switch.
        for kind in ("box", "set"):
            told = check_switched(self, TURNING, 0, ((ONE - 9, ONE),), 4 * ONE, plain(kind, first=4 * ONE, least=4 * ONE))
            self.assertEqual((told[5], taken_ways(told)), (("whole",), [(0, 0, 4 * ONE)]))
        self.assertTrue(plain_switch_fits(TURNING, 0, POINT, 4 * ONE, plain(first=4 * ONE)))
        self.assertFalse(plain_switch_fits(TURNING, 0, POINT, 4 * ONE, plain(first=ONE // 4)))

    def test_switches_that_were_put_off(self):
        """Where it does not go on to a better switch, the one that fits is told after all."""
        spreading = told_by("xy", "-1", "1/2*y")
        machine = ("machine", (spreading, UP), ((0, poly("x", "x", "y"), "down", 1, (poly("x", "x", "y"),)),))
        box = ((ONE // 2, ONE // 2), (0, ONE))
        for kind in ("box", "set"):
            for widest, most in [(ONE + ONE // 20, 60), (2 * ONE, 2), (2 * ONE, 1), (2 * ONE, 60), (ONE, 60)]:
                settings = plain(kind, 3, ONE, widest=widest, most=most)
                self.assertTrue(plain_switch_fits(machine, 0, box, 2 * ONE, settings))
                told = check_switched(self, machine, 0, box, 2 * ONE, settings)
                self.assertEqual(len(taken_ways(told)), 1)
                if widest < 2 * ONE:
                    # One stay would make it too wide.
                    self.assertEqual(taken_ways(told)[0][1], 0)

    def test_some_machines(self):
        random = Random(139)
        ends = {}
        for k in range(40):
            settings = plain(random.choice(["box", "set"]), random.randint(1, 5), random.choice([ONE // 4, ONE, 2 * ONE]),
                             random.choice([ONE // 64, ONE // 4, ONE // 4096]), random.choice([3, 12, 40]), random.choice([2 * ONE, 9 * ONE]), random.choice([1, 20]))
            machine, mode, box = random.choice([
                (TURNING, 0, ((ONE - random.randint(0, ONE // 2), ONE),)), (THERMOSTAT, random.choice([0, 1]), ((5 * ONE // 4, 5 * ONE // 4 + random.randint(0, ONE // 9)),)),
                (BALL, 0, ((ONE, ONE + random.randint(0, ONE // 50)), (0, random.randint(0, 9)))), (MIXED, 0, ((0, random.randint(0, ONE // 9)),))])
            told = check_switched(self, machine, mode, box, random.choice([ONE, 2 * ONE, 3 * ONE]), settings)
            ends[told[5]] = True
        self.assertIn(("whole",), ends)
        self.assertGreaterEqual(len(ends), 3)

    def test_letters_change(self):
        # From one letter to two, and on to one: 1 and the time less 1 are told of the turning one.
        told = check_switched(self, MIXED, 0, ((0, 9),), 2 * ONE, plain("box", 4, first=ONE // 8))
        ways = [w for w, _, _ in taken_ways(told)]
        self.assertEqual(ways[:1], [0])
        self.assertEqual(len(switched_box(told, switched_time(told))[0][1]), len(MIXED[1][switched_box(told, switched_time(told))[0][0]][1]))


def _turned(point, time):
    """The course of TURNING from the first mode: down to 0, then up."""
    x = point[0]
    return (0, (x - time,), []) if time < x else (1, (time - x,), [(0, x)])


def _log(number):
    return Fraction(log(decimal(number)))


def _fades(number, time):
    return number * Fraction(exp(decimal(-time)))


def _heated(point, time):
    mode, x, begun, ways = 0, point[0], Fraction(0), []
    while True:
        length = _log(2 * (2 - x)) if mode == 0 else _log(x)
        if time < begun + length:
            return (mode, ((2 - _fades(2 - x, time - begun)) if mode == 0 else _fades(x, time - begun),), ways)
        begun += length
        ways = ways + [(mode, begun)]
        mode, x = 1 - mode, Fraction(3, 2) if mode == 0 else Fraction(1)


def _root(number):
    with localcontext() as context:
        context.prec = 90
        return Fraction((Decimal(number.numerator) / Decimal(number.denominator)).sqrt())


def _bounced(point, time):
    h, v = point
    begun, ways = Fraction(0), []
    while True:
        length = (v + _root(v * v + 20 * h)) / 10
        if time < begun + length:
            t = time - begun
            return (0, (h + v * t - 5 * t * t, v - 10 * t), ways)
        begun += length
        ways = ways + [(0, begun)]
        h, v = Fraction(0), -Fraction(4, 5) * (v - 10 * length)


COURSES = [
    (TURNING, ((ONE - ONE // 9, ONE),), 3 * ONE, _turned), (THERMOSTAT, ((ONE + ONE // 50, ONE + ONE // 30),), 2 * ONE, _heated),
    (BALL, ((ONE, ONE + ONE // 200), (0, ONE // 100)), 3 * ONE // 2, _bounced)]


class TestCourses(unittest.TestCase):
    def test_facts(self):
        """[135], [137], [138]: the courses are where they are told to be, and take the told ways."""
        random = Random(140)
        for machine, box, time, course in COURSES:
            for settings in (plain("box", 4), plain("set", 4), plain("box", 2, ONE // 2), plain("set", 6, ONE // 8)):
                told = check_switched(self, machine, 0, box, time, settings)
                length = switched_time(told)
                self.assertGreater(len(taken_ways(told)), 0)
                spots = [0, length] + [random.randint(0, length) for _ in range(4)]
                for _, early, late in taken_ways(told):
                    spots += [early, late, random.randint(early, late)]
                for point in starts(box, random, 2):
                    _, _, ways = course(point, Fraction(length, ONE))
                    self.assertEqual([w for w, _ in ways], [w for w, _, _ in taken_ways(told)])
                    for (_, at), (_, early, late) in zip(ways, taken_ways(told)):
                        self.assertTrue(Fraction(early, ONE) < at < Fraction(late, ONE))
                    for spot in spots:
                        mode, row, _ = course(point, Fraction(spot, ONE))
                        boxes = switched_box(told, spot)
                        self.assertIn(len(boxes), (1, 2))
                        self.assertTrue(any(mode == own and lies_in(row, held) for own, held in boxes), (settings, spot))

    def test_no_ways(self):
        # Without ways it is a run.
        for own, box in [(TURNS, ((ONE, ONE), (0, 9))), (CLOCK, ((0, 0),))]:
            machine = ("machine", (own,), ())
            told = check_switched(self, machine, 0, box, ONE, plain("set", 5))
            self.assertEqual((told[5], len(told[4])), (("whole",), 1))
            self.assertEqual(switched_box(told, ONE), [(0, box_at(told[4][0][1], ONE))])
