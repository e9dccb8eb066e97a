"""[123] to [125]: stretches of runs, and what they tell."""

import unittest
from fractions import Fraction
from random import Random

from tests import formulas
from tests.courses import BOXES as STARTS, CLOCK, FALLS, KNOWN, TURNS, starts, system
from tests.reference import poly as poly_of_table, value
from tests.support import MOST, ONE, OTHERS, POLYS, check_calls, counts_wrong, refuses, too_many, with_part
from tests.test_guards import ALL, FAR, NEAR, OVER, word
from tests.test_runs import NONE_YET, RUNS, TURNED, TWICE, ZERO, set_run
from truecourse.crossings import (
    crossings, is_stretches, sharpened, sign_at, stretches, undecided, word_between)
from truecourse.errors import InvalidPoly, InvalidRoom, InvalidStretches, InvalidTime
from truecourse.guards import once
from truecourse.polytexts import parse_poly
from truecourse.runners import run as run_to
from truecourse.runs import begins, box_at, end_time, is_run
from truecourse.sets import set_of_box
from truecourse.settings import plain_settings

FOUR = 4 * ONE
LONG = ("run", CLOCK, NEAR, (("step", NEAR, FOUR, 1, ALL, FAR),))
TOLD = [("once", 0, FOUR, "up")]
HALF = parse_poly("t - 1/2", ["t"])
RUN = (RUNS[0], RUNS[1])
GUARD = (InvalidPoly, POLYS + [(((1, 0), (1, 1)),)])
ROOM = (InvalidRoom, counts_wrong(0, 6))
FORMS = OTHERS + [3, "x", (), [], ("once", 0, FOUR, "up"), [list(TOLD[0])], [TOLD[0][:3]], [TOLD[0] + (1,)], TOLD * 2] + [
    [with_part(TOLD[0], place, part)] for place, part in [
        (0, "never"), (0, "Once"), (0, None), (0, "perhaps"), (1, 1), (1, -1), (1, False), (1, None), (2, FOUR - 1), (2, FOUR + 1),
        (2, 0), (2, "4"), (2, True), (3, "down"), (3, "above"), (3, None), (3, ("up",))]] + [
    [("perhaps", 0, FOUR, "up")], [("perhaps", 0)], [("perhaps", 0, ONE)], [("perhaps", 1, FOUR)], [("perhaps", 0, ONE), ("perhaps", 2 * ONE, FOUR)],
    [("perhaps", 0, 2 * ONE), ("perhaps", ONE, FOUR)], [("perhaps", 0, 0), ("perhaps", 0, FOUR)], [("perhaps", 0, FOUR), ("perhaps", FOUR, FOUR)],
    [("perhaps", False, FOUR)], [("perhaps", 0, FOUR), None], [("perhaps", 0, FOUR), ("perhaps", FOUR, 5 * ONE)]]
VALUE = (InvalidStretches, FORMS)


def boxes_for(run, early, late):
    """The boxes X, B and Y of a stretch, by the fixed formulas alone."""
    _, own, _, papers = run
    times = begins(run)
    k = max(j for j in range(len(papers)) if times[j] <= early)
    paper = papers[k]
    _, begin, step, many, held, end = paper
    first, last = early - times[k], late - times[k]
    if paper[0] == "carried":
        begin = formulas.set_hull(begin)
    x = begin if first == 0 else formulas.during(own[2], begin, first, first, many, held)
    if last == step:
        y = formulas.set_hull(end) if paper[0] == "carried" else end
    else:
        y = formulas.during(own[2], begin, last, last, many, held)
    return x, formulas.during(own[2], begin, first, last, many, held), y


def wanted(run, guard, early, late):
    x, b, y = boxes_for(run, early, late)
    return word(run[1], guard, x, b, y)


def check_stretches(test, run, guard, value, room=None):
    """They follow one another, and each has the word for its boxes, or, perhaps, "perhaps"."""
    test.assertIsInstance(value, list)
    at = 0
    times = begins(run)
    for part in value:
        early, late = part[1:3]
        test.assertEqual(early, at)
        test.assertTrue(any(a <= early < late <= b for a, b in zip(times, times[1:])))
        told = wanted(run, guard, early, late)
        test.assertEqual(word_between(run, guard, early, late), told)
        if part[0] != "perhaps" or room is not None:
            test.assertEqual(part, told[:1] + (early, late) + told[1:])
        at = late
    test.assertEqual(at, times[-1])
    test.assertIs(is_stretches(run, guard, value), True)


class TestWords(unittest.TestCase):
    def test_errors(self):
        check_calls(self, word_between, [
            ("run", LONG, RUN), ("guard", OVER, GUARD), ("early", 5, (InvalidTime, counts_wrong(0, FOUR - 1))),
            ("late", 9, (InvalidTime, counts_wrong(6, FOUR)))])
        for early, late, wrong in [(5, 5, 5), (5, 4, 4), (0, FOUR + 1, FOUR + 1), (FOUR, FOUR, FOUR), (0, 0, 0)]:
            refuses(word_between, InvalidTime, {"value": wrong}, LONG, OVER, early, late)
        # Both times are of one step.
        refuses(word_between, InvalidTime, {"value": ONE + 1}, TWICE, HALF, 0, ONE + 1)
        refuses(word_between, InvalidTime, {"value": ONE}, TWICE, HALF, ONE, ONE)
        refuses(word_between, InvalidTime, {"value": 2 * ONE + 1}, TWICE, HALF, ONE, 2 * ONE + 1)
        refuses(word_between, InvalidTime, {"value": 0}, NONE_YET, HALF, 0, 1)

    def test_whole_steps(self):
        self.assertEqual(word_between(LONG, OVER, 0, FOUR), ("once", "up"))
        for k, paper in enumerate(TURNED[3]):
            times = begins(TURNED)
            for text in ("x - 1", "y - 1/4", "x^2 + y^2 - 1", "y"):
                guard = parse_poly(text, ["x", "y"])
                self.assertEqual(word_between(TURNED, guard, times[k], times[k + 1]), once(TURNS, paper, guard))

    def test_boxes(self):
        """The step's own first and last box at its ends, the box at that time within it."""
        first = ("step", ((-5, 5),), 9, 1, ((-9, 20),), ((2, 16),))
        second = ("step", ((0, 20),), 9, 1, ((0, 40),), ((7, 30),))
        run = ("run", CLOCK, ((0, 0),), (first, second))
        self.assertIs(is_run(run), True)
        for at, told in [(-6, "above"), (-5, None), (5, None), (6, "below")]:
            # X of the first step is its first box, not the run's start.
            guard = poly_of_table({(0,): Fraction(-at, ONE), (1,): Fraction(1)})
            self.assertEqual(word_between(run, guard, 0, 9), wanted(run, guard, 0, 9))
        self.assertEqual(boxes_for(run, 0, 9), (((-5, 5),), ((-5, 14),), ((2, 16),)))
        self.assertEqual(boxes_for(run, 9, 12), (((0, 20),), ((0, 23),), ((3, 23),)))
        for early in range(18):
            for late in range(early + 1, 10 if early < 9 else 19):
                for at in (-7, 1, 7, 16, 24):
                    guard = poly_of_table({(0,): Fraction(-at, ONE), (1,): Fraction(1)})
                    self.assertEqual(word_between(run, guard, early, late), wanted(run, guard, early, late))

    def test_both_kinds(self):
        random = Random(123)
        runs = [run_to(TURNS, STARTS["turns"], ONE, plain_settings(kind, 4))[1] for kind in ("box", "set")]
        for run in runs:
            times = begins(run)
            for _ in range(40):
                k = random.randrange(len(times) - 1)
                early = random.choice([times[k], random.randint(times[k], times[k + 1] - 1)])
                late = random.choice([times[k + 1], random.randint(early + 1, times[k + 1])])
                guard = poly_of_table({(1, 0): Fraction(1), (0, 0): Fraction(random.randint(-12, 12), 10)})
                self.assertEqual(word_between(run, guard, early, late), wanted(run, guard, early, late))


class TestJudge(unittest.TestCase):
    def test_errors(self):
        check_calls(self, is_stretches, [("run", LONG, RUN), ("guard", OVER, GUARD), ("value", TOLD, (None, []))])
        for function in (crossings, undecided):
            check_calls(self, function, [("run", LONG, RUN), ("guard", OVER, GUARD), ("value", TOLD, VALUE)])
        check_calls(self, sign_at, [
            ("run", LONG, RUN), ("guard", OVER, GUARD), ("value", TOLD, VALUE), ("time", 0, (InvalidTime, counts_wrong(0, FOUR)))])
        check_calls(self, sharpened, [("run", LONG, RUN), ("guard", OVER, GUARD), ("value", TOLD, VALUE), ("room", 3, ROOM)])

    def test_is_stretches(self):
        for told in [TOLD, tuple(TOLD), [("perhaps", 0, FOUR)], [("perhaps", 0, ONE), ("perhaps", ONE, FOUR)],
                     [("never", 0, ONE, "below"), ("once", ONE, 3 * ONE, "up"), ("never", 3 * ONE, FOUR, "above")],
                     [("never", 0, ONE, "below"), ("perhaps", ONE, 3 * ONE), ("never", 3 * ONE, FOUR, "above")]]:
            self.assertIs(is_stretches(LONG, OVER, told), True, told)
        for told in FORMS:
            self.assertIs(is_stretches(LONG, OVER, told), False, told)

    def test_within_steps(self):
        # A stretch may end where a step does, and must not go beyond.
        late = parse_poly("t - 9", ["t"])
        for cuts, told in [([0, ONE, 2 * ONE], True), ([0, 2 * ONE], False), ([0, ONE + 1, 2 * ONE], False), ([0, ONE - 1, ONE, 2 * ONE], True),
                           ([0, ONE - 1, ONE + 1, 2 * ONE], False)]:
            value = [("never", a, b, "below") for a, b in zip(cuts, cuts[1:])]
            self.assertIs(is_stretches(TWICE, late, value), told, cuts)
            value = [("perhaps", a, b) for a, b in zip(cuts, cuts[1:])]
            self.assertIs(is_stretches(TWICE, late, value), told, cuts)

    def test_no_papers(self):
        self.assertIs(is_stretches(NONE_YET, HALF, []), True)
        self.assertIs(is_stretches(NONE_YET, HALF, ()), True)
        self.assertIs(is_stretches(NONE_YET, HALF, [("perhaps", 0, 0)]), False)
        self.assertIs(is_stretches(NONE_YET, HALF, [("perhaps", 0, 1)]), False)
        self.assertEqual([stretches(NONE_YET, HALF, 3), crossings(NONE_YET, HALF, []), undecided(NONE_YET, HALF, [])], [[], [], []])
        self.assertIsNone(sign_at(NONE_YET, HALF, [], 0))
        self.assertEqual(sharpened(NONE_YET, HALF, [], 3), [])

    def test_example(self):
        """[125]"""
        self.assertEqual(stretches(LONG, OVER, 0), TOLD)
        cut = [("never", 0, ONE, "below"), ("once", ONE, 3 * ONE, "up"), ("never", 3 * ONE, FOUR, "above")]
        self.assertIs(is_stretches(LONG, OVER, cut), True)
        self.assertEqual([word_between(LONG, OVER, early, late) for _, early, late, _ in cut],
                         [("never", "below"), ("once", "up"), ("never", "above")])
        # Halves do not find this: at 2 the guard may just be 0.
        halves = [word_between(LONG, OVER, 0, 2 * ONE), word_between(LONG, OVER, 2 * ONE, FOUR)]
        self.assertEqual(halves, [("perhaps",), ("perhaps",)])
        for early, late, told in [(3 * ONE // 2 - 1, 2 * ONE + 1, ("once", "up")), (3 * ONE // 2, 2 * ONE + 1, ("perhaps",)),
                                  (3 * ONE // 2 - 1, 2 * ONE, ("perhaps",))]:
            self.assertEqual(word_between(LONG, OVER, early, late), told)
        points = [Fraction(-1), Fraction(-1, 2), Fraction(-3, 4)]
        self.assertEqual([1 - x for x in points], [2, Fraction(3, 2), Fraction(7, 4)])


class TestStretches(unittest.TestCase):
    def test_errors(self):
        check_calls(self, stretches, [("run", LONG, RUN), ("guard", OVER, GUARD), ("room", 3, ROOM)])
        refuses(stretches, InvalidRoom, {"value": 7}, LONG, OVER, 7)

    def test_room_0(self):
        for run, texts in [(TWICE, ("t - 1/2", "t - 1", "t - 5", "t^2 - t")), (TURNED, ("x - 1", "y", "x^2 + y^2 - 1", "y - 1/5"))]:
            for text in texts:
                guard = parse_poly(text, list(run[1][1]))
                told = stretches(run, guard, 0)
                times = begins(run)
                self.assertEqual([part[1:3] for part in told], list(zip(times, times[1:])))
                check_stretches(self, run, guard, told, 0)

    def test_rooms(self):
        random = Random(124)
        for kind in ("box", "set"):
            for name in ("turns", "clock", "falls", "spirals"):
                own = KNOWN[name][0]
                run = run_to(own, STARTS[name], 2 * ONE, plain_settings(kind, 5))[1]
                for room in (0, 1, 2, 4):
                    letters = len(own[1])
                    letter = tuple(int(k == 0) for k in range(letters))
                    guard = poly_of_table({letter: Fraction(1), (0,) * letters: Fraction(random.randint(-10, 10), 9)})
                    told = stretches(run, guard, room)
                    check_stretches(self, run, guard, told, room)
                    shortest = min(b - a for a, b in zip(begins(run), begins(run)[1:])) >> room
                    self.assertTrue(all(late - early >= shortest for _, early, late, *_ in told))
                    check_stretches(self, run, guard, [("perhaps",) + part[1:3] for part in told])

    def test_more_room_tells_more(self):
        # The letter goes up and comes down again: a whole step tells nothing, pieces do.
        own = system("xt", [((0, 0), (1, 1)), ((0, 1), (-1, 1))], [((0, 0), (1, 1))])
        run = run_to(own, ((0, 0), (0, 0)), 2 * ONE, ("settings", "box", 3, 2 * ONE, 1, 9, MOST >> 11, 20))[1]
        self.assertEqual(len(run[3]), 1)
        guard = parse_poly("x - 1/3", ["x", "t"])
        self.assertEqual(stretches(run, guard, 0), [("perhaps", 0, 2 * ONE)])
        told = stretches(run, guard, 6)
        check_stretches(self, run, guard, told, 6)
        self.assertEqual([way for _, _, way in crossings(run, guard, told)], ["up", "down"])
        self.assertEqual(undecided(run, guard, told), [])

    def test_single_grains(self):
        # A step of one grain can't be halved, nor can it be in more pieces than grains.
        for step in (1, 2, 3, 5):
            run = ("run", CLOCK, ZERO, (("step", ZERO, step, 1, ((0, step),), ((step, step),)),))
            guard = parse_poly("t^2 - 7*t", ["t"])
            for room in (0, 1, 6):
                told = stretches(run, guard, room)
                self.assertIs(is_stretches(run, guard, told), True)
                self.assertTrue(len(told) <= step)

    def test_most(self):
        # 60 steps, each in 64 pieces: 3840 stretches at most; a guard that is 0 tells nothing.
        still = ("system", ("x",), ((),))
        run = ("run", still, ZERO, (("step", ZERO, 8 * ONE, 1, ZERO, ZERO),) * 60)
        told = stretches(run, (((1,), (1, 1)),), 6)
        self.assertTrue(len(told) <= 3840)
        self.assertEqual(undecided(run, (((1,), (1, 1)),), told), [(0, 480 * ONE)])


class TestTold(unittest.TestCase):
    def test_lists(self):
        cut = [("never", 0, ONE, "below"), ("once", ONE, 3 * ONE, "up"), ("never", 3 * ONE, FOUR, "above")]
        self.assertEqual(crossings(LONG, OVER, cut), [(ONE, 3 * ONE, "up")])
        self.assertEqual(undecided(LONG, OVER, cut), [])
        for parts, told in [([0, ONE, FOUR], [(0, FOUR)]), ([0, FOUR], [(0, FOUR)]), ([0, 1, 2, 3, FOUR], [(0, FOUR)])]:
            value = [("perhaps", a, b) for a, b in zip(parts, parts[1:])]
            self.assertEqual(undecided(LONG, OVER, value), told)
            self.assertEqual(crossings(LONG, OVER, value), [])
        mixed = [("perhaps", 0, 1), ("perhaps", 1, 2), ("never", 2, ONE, "below"), ("perhaps", ONE, 3 * ONE), ("never", 3 * ONE, FOUR, "above")]
        self.assertEqual(undecided(LONG, OVER, mixed), [(0, 2), (ONE, 3 * ONE)])
        # Also where one step ends and the next one begins.
        self.assertEqual(undecided(TWICE, HALF, [("perhaps", 0, ONE), ("perhaps", ONE, 2 * ONE)]), [(0, 2 * ONE)])

    def test_signs(self):
        cut = [("never", 0, ONE, "below"), ("once", ONE, 3 * ONE, "up"), ("never", 3 * ONE, FOUR, "above")]
        for time, told in [(0, "below"), (5, "below"), (ONE, "below"), (ONE + 1, None), (3 * ONE - 1, None), (3 * ONE, "above"), (FOUR, "above")]:
            self.assertEqual(sign_at(LONG, OVER, cut, time), told)
        for time, told in [(0, "below"), (1, None), (FOUR - 1, None), (FOUR, "above")]:
            self.assertEqual(sign_at(LONG, OVER, TOLD, time), told)
        mixed = [("perhaps", 0, ONE), ("once", ONE, 3 * ONE, "up"), ("perhaps", 3 * ONE, FOUR)]
        for time, told in [(0, None), (ONE - 1, None), (ONE, "below"), (2 * ONE, None), (3 * ONE, "above"), (3 * ONE + 1, None), (FOUR, None)]:
            self.assertEqual(sign_at(LONG, OVER, mixed, time), told)
        down = parse_poly("1 - t", ["t"])
        for time, told in [(0, "above"), (1, None), (FOUR, "below")]:
            self.assertEqual(sign_at(LONG, down, [("once", 0, FOUR, "down")], time), told)

    def check_sharp(self, run, guard, value, room):
        told = sharpened(run, guard, value, room)
        check_stretches(self, run, guard, told)
        rest = list(told)
        for part in value:
            if part[0] != "once":
                self.assertEqual(rest.pop(0), part)
                continue
            own = []
            while rest and rest[0][2] <= part[2]:
                own.append(rest.pop(0))
            self.assertEqual((own[0][1], own[-1][2]), part[1:3])
            kinds = [piece[0] for piece in own]
            self.assertEqual(kinds.count("once"), 1)
            at = kinds.index("once")
            self.assertEqual(own[at][3], part[3])
            self.assertTrue(at <= 1 and len(own) - at <= 2)
            self.assertEqual([kind for kind in kinds if kind != "once"], ["never"] * (len(own) - 1))
        self.assertEqual(rest, [])
        return told

    def test_sharpened(self):
        self.assertEqual(sharpened(LONG, OVER, TOLD, 0), TOLD)
        lengths = []
        for room in range(7):
            told = self.check_sharp(LONG, OVER, TOLD, room)
            (early, late, _), = crossings(LONG, OVER, told)
            self.assertTrue(early < 3 * ONE // 2 and 2 * ONE < late)
            lengths.append(late - early)
        self.assertEqual(lengths, sorted(lengths, reverse=True))
        self.assertTrue(lengths[6] < ONE)
        # What isn't "once" stays as it is, "perhaps" too.
        mixed = [("perhaps", 0, ONE), ("once", ONE, 3 * ONE, "up"), ("perhaps", 3 * ONE, FOUR)]
        told = self.check_sharp(LONG, OVER, mixed, 6)
        self.assertEqual([told[0], told[-1]], [mixed[0], mixed[2]])
        self.assertEqual(sharpened(LONG, OVER, [("perhaps", 0, FOUR)], 6), [("perhaps", 0, FOUR)])

    def test_sharpened_sets(self):
        run = set_run(TURNS, ((ONE, ONE + 99), (0, 99)), ONE // 4, 5, 4)
        guard = parse_poly("y - 1/3", ["x", "y"])
        value = stretches(run, guard, 2)
        self.assertEqual([way for _, _, way in crossings(run, guard, value)], ["up"])
        self.check_sharp(run, guard, value, 6)
        self.check_sharp(run, guard, value, 1)

    def test_given_tuples(self):
        told = (("never", 0, ONE, "below"), ("once", ONE, 3 * ONE, "up"), ("never", 3 * ONE, FOUR, "above"))
        self.assertEqual(crossings(LONG, OVER, told), [(ONE, 3 * ONE, "up")])
        self.assertIsInstance(sharpened(LONG, OVER, told, 0), list)
        self.assertEqual(sharpened(LONG, OVER, told, 0), list(told))


class TestBeyond(unittest.TestCase):
    def setUp(self):
        # The set to which it leads is so far around that its hull goes beyond.
        source = set_of_box(ZERO)
        target = ("set", ((0, 1),), (((2 ** 40, 1),),), ((-2 ** 40, 2 ** 40),))
        own = ("system", ("x",), ((),))
        self.run_far = ("run", own, ZERO, (("carried", source, ONE, 1, ZERO, target),))
        self.guard = parse_poly("x - 1", ["x"])

    def test_beyond(self):
        run, guard = self.run_far, self.guard
        self.assertIs(is_run(run), True)
        too_many(word_between, "grains", MOST, run, guard, 0, ONE)
        too_many(word_between, "grains", MOST, run, guard, 5, ONE)
        self.assertEqual(word_between(run, guard, 0, ONE - 1), ("never", "below"))
        refuses(word_between, InvalidTime, {"value": ONE + 1}, run, guard, 0, ONE + 1)
        self.assertIs(is_stretches(run, guard, [("never", 0, ONE, "below")]), False)
        self.assertIs(is_stretches(run, guard, [("perhaps", 0, ONE)]), True)
        self.assertIs(is_stretches(run, guard, [("never", 0, ONE - 1, "below"), ("perhaps", ONE - 1, ONE)]), True)
        self.assertEqual(stretches(run, guard, 0), [("perhaps", 0, ONE)])
        told = stretches(run, guard, 2)
        self.assertEqual(told, [("never", 0, ONE // 2, "below"), ("never", ONE // 2, 3 * ONE // 4, "below"), ("perhaps", 3 * ONE // 4, ONE)])
        self.assertEqual(sharpened(run, guard, told, 3), told)
        self.assertEqual(sharpened(run, guard, [("perhaps", 0, ONE)], 3), [("perhaps", 0, ONE)])


class TestCourses(unittest.TestCase):
    def test_facts(self):
        """[124]: each course of known systems crosses as many times, and as, and where is told."""
        random = Random(125)
        words = {}
        for name, (own, course) in KNOWN.items():
            for kind in ("box", "set"):
                run = run_to(own, STARTS[name], ONE, plain_settings(kind, 6))[1]
                for _ in range(3):
                    guard = self.guard_for(random, own, run)
                    told = stretches(run, guard, random.choice([0, 2, 4]))
                    self.assertIs(is_stretches(run, guard, told), True)
                    for part in told:
                        words[part[:1] + part[3:]] = True
                    for point in starts(STARTS[name], random, 2):
                        self.check_course(run, guard, told, lambda time: value(guard, course(point, time)))
        self.assertEqual(len(words), 5)

    def check_course(self, run, guard, told, worth):
        for part in told:
            times = [Fraction(part[1], ONE) + Fraction(part[2] - part[1], ONE) * k / 4 for k in range(5)]
            signs = [worth(time) > 0 for time in times]
            if part[0] == "never":
                self.assertEqual(set(signs), {part[3] == "above"})
            elif part[0] == "once":
                self.assertEqual((signs[0], signs[-1]), (part[3] == "down", part[3] == "up"))
                self.assertEqual(sum(a != b for a, b in zip(signs, signs[1:])), 1)
        for time in sorted({part[1] for part in told} | {part[2] for part in told})[:4]:
            sign = sign_at(run, guard, told, time)
            if sign is not None:
                self.assertEqual(worth(Fraction(time, ONE)) > 0, sign == "above")

    def guard_for(self, random, own, run):
        letters = len(own[1])
        k = random.randrange(letters)
        first, last = run[2][k], box_at(run, end_time(run))[k]
        low, high = min(first[0], last[0]), max(first[1], last[1])
        at = random.randint(low - 1, high + 1)
        way = random.choice([1, -1])
        return poly_of_table({tuple(int(j == k) for j in range(letters)): Fraction(way), (0,) * letters: Fraction(-way * at, ONE)})

    def test_crossing_times(self):
        # Half the amount is left at log 2 over the rate; turning, y is 1/2 at asin 1/2 behind.
        run = run_to(FALLS, ((ONE, ONE),), ONE, plain_settings("box", 8))[1]
        guard = parse_poly("x - 1/2", ["x"])
        told = sharpened(run, guard, stretches(run, guard, 6), 6)
        (early, late, way), = crossings(run, guard, told)
        self.assertEqual(way, "down")
        self.assertTrue(early < Fraction(6931471805, 10 ** 10) * ONE < late)
        self.assertTrue(late - early < ONE // 200)
