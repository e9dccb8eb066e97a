"""[142] to [145]: words of boxes of starts, tables, finer tables."""

import unittest
from fractions import Fraction
from random import Random

from tests.courses import BOXES as STARTS, CLOCK, FALLS, KNOWN, STILL, TURNS, lies_in, starts, system
from tests.support import (
    BOX, BOXES, MOST, ONE, OTHERS, SETTING, SYSTEM, check_calls, counts_wrong, refuses, too_many, with_part)
from tests.test_grids import NO_COUNTS
from tests.test_runs import NONE_YET, RUNS, TURNED, TWICE, ZERO
from truecourse.boxes import box_meet, box_within
from truecourse.errors import (
    InvalidCounts, InvalidPosition, InvalidRun, InvalidSettings, InvalidTable, InvalidTarget, InvalidTime)
from truecourse.grids import cell_box, cells
from truecourse.runners import run as run_to
from truecourse.runs import box_at, end_time, is_run
from truecourse.sets import set_of_box
from truecourse.settings import plain_settings
from truecourse.tables import finer, is_table, sure_in, sure_out, table, word_by

G = ONE
SETTINGS = ("settings", "box", 1, G, G, 4, 8 * G, 4)
FEW = ("settings", "box", 2, G, G // 64, 60, 2 ** 60, 20)
TARGET = ((0, 2 * G),)
TOLD = table(STILL, ((0, 4 * G),), (4,), G, TARGET, SETTINGS)
NO_BOXES = BOXES + [((0, 1),) * 2]
TIMES = (InvalidTime, counts_wrong(0, 480 * ONE))


def with_row(place, row):
    return with_part(TOLD, 6, TOLD[6][:place] + [row] + TOLD[6][place + 1:])


def row_with(part, told):
    return with_row(1, with_part(TOLD[6][1], part, told))


FORMS = OTHERS + [3, "table", (), list(TOLD), TOLD[:6], TOLD + (1,)] + [
    with_part(TOLD, place, part) for place, parts in [
        (0, ["Table", None, True]), (1, [None, FALLS, TURNS, "x"]), (2, NO_BOXES), (3, NO_COUNTS + [(4, 1), (3,), (5,), (8,)]),
        (4, counts_wrong(0, 480 * ONE) + [G + 1, 2 * G]), (5, NO_BOXES + [((0, G),), ((-5, 9 * G),)]),
        (6, [None, [], TOLD[6][:3], TOLD[6] * 2, TOLD[6][::-1], "x", {}, [None] * 4])] for part in parts] + [
    with_row(1, row) for row in (None, (), list(TOLD[6][1]), TOLD[6][1][:1], TOLD[6][1] + (1,), TOLD[6][0], TOLD[6][3])] + [
    row_with(0, word) for word in ("out", "perhaps", "spent", "In", None, True, ("in",))] + [
    row_with(1, run) for run in (None, TWICE, TURNED, ("run", STILL, ((G, 2 * G - 1),), ()), ("run", STILL, ((G, 2 * G),), ()))]
TABLES = (InvalidTable, FORMS)


def word(run, time, target):
    if end_time(run) < time:
        return "spent"
    box = box_at(run, time)
    if box_within(box, target):
        return "in"
    return "out" if box_meet(box, target) is None else "perhaps"


class TestWords(unittest.TestCase):
    def test_errors(self):
        check_calls(self, word_by, [
            ("system", CLOCK, SYSTEM), ("run", TWICE, (RUNS[0], RUNS[1] + [TURNED])), ("time", ONE, TIMES),
            ("target", ((0, ONE),), (InvalidTarget, NO_BOXES))])
        refuses(word_by, InvalidRun, {"value": TWICE}, STILL, TWICE, 0, ZERO)
        # A time to 480, not only to the run's end.
        self.assertEqual(word_by(CLOCK, TWICE, 480 * ONE, ZERO), "spent")

    def test_words(self):
        for time, target, told in [
                (ONE, ((ONE, ONE),), "in"), (ONE, ((0, 9 * ONE),), "in"), (ONE, ((0, ONE - 1),), "out"), (ONE, ((ONE + 1, 2 * ONE),), "out"),
                (0, ZERO, "in"), (0, ((1, 1),), "out"), (2 * ONE, ((2 * ONE, 2 * ONE),), "in"), (2 * ONE + 1, ((0, MOST),), "spent"),
                (ONE // 2, ((ONE // 2, ONE),), "in")]:
            self.assertEqual(word_by(CLOCK, TWICE, time, target), told)
        self.assertEqual([word_by(CLOCK, NONE_YET, time, ZERO) for time in (0, 1)], ["in", "spent"])
        wide = ("run", STILL, ((3, 9),), ())
        for target, told in [(((3, 9),), "in"), (((2, 10),), "in"), (((3, 8),), "perhaps"), (((4, 9),), "perhaps"), (((9, 12),), "perhaps"),
                             (((10, 12),), "out"), (((0, 3),), "perhaps"), (((0, 2),), "out"), (((5, 6),), "perhaps")]:
            self.assertEqual(word_by(STILL, wide, 0, target), told)

    def test_other_runs(self):
        for name in ("turns", "spirals"):
            own = KNOWN[name][0]
            for kind in ("box", "set"):
                run = run_to(own, STARTS[name], ONE, plain_settings(kind, 4))[1]
                for time in (0, ONE // 3, ONE, ONE + 1):
                    for target in (((0, ONE), (0, ONE)), ((-2 * ONE, 2 * ONE),) * 2, ((5 * ONE, 6 * ONE),) * 2):
                        self.assertEqual(word_by(own, run, time, target), word(run, time, target))

    def test_grains(self):
        target = ("set", ((0, 1),), (((2 ** 40, 1),),), ((-2 ** 40, 2 ** 40),))
        run = ("run", STILL, ZERO, (("carried", set_of_box(ZERO), ONE, 1, ZERO, target),))
        self.assertIs(is_run(run), True)
        too_many(word_by, "grains", MOST, STILL, run, ONE, ZERO)
        self.assertEqual(word_by(STILL, run, ONE - 1, ZERO), "in")
        self.assertIs(is_table(("table", STILL, ZERO, (1,), ONE - 1, ZERO, [("in", run)])), True)
        self.assertIs(is_table(("table", STILL, ZERO, (1,), ONE, ZERO, [("in", run)])), False)
        self.assertIs(is_table(("table", STILL, ZERO, (1,), ONE, ZERO, [("perhaps", run)])), False)


class TestTables(unittest.TestCase):
    def test_errors(self):
        check_calls(self, table, [
            ("system", STILL, SYSTEM), ("box", ((0, 4 * G),), (BOX[0], NO_BOXES)), ("counts", (2,), (InvalidCounts, NO_COUNTS + [(2, 1)])),
            ("time", G, TIMES), ("target", TARGET, (InvalidTarget, NO_BOXES)), ("settings", SETTINGS, SETTING)])
        check_calls(self, is_table, [("value", TOLD, (None, []))])
        for function in (sure_in, sure_out):
            check_calls(self, function, [("told", TOLD, TABLES)])
        check_calls(self, finer, [("told", TOLD, TABLES), ("position", 0, (InvalidPosition, counts_wrong(0, 0))), ("settings", SETTINGS, SETTING)])

    def test_example(self):
        self.assertEqual([row[0] for row in TOLD[6]], ["in", "in", "perhaps", "out"])
        self.assertEqual([sure_in(TOLD), sure_out(TOLD)], [[(0,), (1,)], [(3,)]])
        # The third cell's box only just meets the target; one grain more, and it doesn't.
        for high, words in [(2 * G, ["in", "in", "perhaps", "out"]), (2 * G - 1, ["in", "perhaps", "out", "out"]), (4 * G, ["in"] * 4)]:
            told = table(STILL, ((0, 4 * G),), (4,), G, ((0, high),), SETTINGS)
            self.assertEqual([row[0] for row in told[6]], words)

    def test_forms(self):
        for value in [TOLD, with_part(TOLD, 6, tuple(TOLD[6])), with_part(TOLD, 4, G - 1), with_part(TOLD, 4, 0)]:
            self.assertIs(is_table(value), True)
        for value in FORMS:
            self.assertIs(is_table(value), False, value)

    def test_other_runs(self):
        # Runs of any kind, of wider boxes, and the same for several cells.
        whole = run_to(STILL, ((0, 4 * G),), G, SETTINGS)[1]
        sets = run_to(STILL, ((0, 2 * G),), 2 * G, plain_settings("set", 2))[1]
        rows = [("in", sets), ("in", sets), ("perhaps", whole), ("perhaps", whole)]
        self.assertIs(is_table(with_part(TOLD, 6, rows)), True)
        self.assertIs(is_table(with_part(TOLD, 6, [("in", sets), ("in", sets), ("in", sets), ("perhaps", whole)])), False)
        self.assertIs(is_table(with_part(TOLD, 6, [("in", whole)] + rows[1:])), False)
        none = ("run", STILL, ((0, 4 * G),), ())
        self.assertIs(is_table(with_part(TOLD, 6, [("spent", none)] * 4)), True)
        self.assertEqual([sure_in(with_part(TOLD, 6, rows)), sure_out(with_part(TOLD, 6, rows))], [[(0,), (1,)], []])

    def check_table(self, own, box, counts, time, target, settings):
        told = table(own, box, counts, time, target, settings)
        self.assertEqual(told[:6], ("table", own, box, counts, time, target))
        self.assertIsInstance(told[6], list)
        self.assertEqual(len(told[6]), len(cells(counts)))
        for cell, row in zip(cells(counts), told[6]):
            self.check_row(own, cell_box(box, counts, cell), time, target, settings, row)
        self.assertIs(is_table(told), True)
        return told

    def check_row(self, own, piece, time, target, settings, row):
        """A run that `run` may tell: whole up to the time, or spent with what was told."""
        self.assertIsInstance(row, tuple)
        told, run = row
        self.assertIs(is_run(run), True)
        self.assertIs(box_within(piece, run[2]), True)
        self.assertEqual(told, word(run, time, target))
        passed = 0
        for paper in run[3]:
            left = time - passed
            self.assertTrue(min(settings[4], left) <= paper[2] <= min(settings[3], left))
            passed += paper[2]
        self.assertTrue(passed <= time and len(run[3]) <= settings[5])

    def test_some(self):
        random = Random(144)
        words = {}
        for name, (own, course) in KNOWN.items():
            box = STARTS[name]
            counts = tuple(random.randint(1, 2) for _ in box)
            middle = course(starts(box, random, 0)[2], Fraction(1, 2))
            width = random.choice([ONE // 19, 2 * ONE])
            shift = random.choice([0, 3 * width])
            target = tuple((int(x * ONE) + shift - width, int(x * ONE) + shift + width) for x in middle)
            told = self.check_table(own, box, counts, ONE // 2, target, ("settings", random.choice(["box", "set"]), 3, ONE // 4, ONE // 64, 20, 2 ** 60, 9))
            self.check_courses(told, course, random)
            for row in told[6]:
                words[row[0]] = True
        self.assertGreaterEqual(len(words), 3)

    def check_courses(self, told, course, random):
        """[144]: from sure cells courses are in the target, or are not."""
        _, own, box, counts, time, target, rows = told
        for cell, row in zip(cells(counts), rows):
            piece = cell_box(box, counts, cell)
            for point in starts(piece, random, 1):
                end = course(point, Fraction(time, ONE))
                if row[0] == "in":
                    self.assertTrue(lies_in(end, target))
                if row[0] == "out":
                    self.assertFalse(all(Fraction(low, ONE) <= x <= Fraction(high, ONE) for x, (low, high) in zip(end, target)))
        self.assertEqual(sure_in(told), [cell for cell, row in zip(cells(counts), rows) if row[0] == "in"])
        self.assertEqual(sure_out(told), [cell for cell, row in zip(cells(counts), rows) if row[0] == "out"])

    def test_sure(self):
        random = Random(145)
        for name, target in [("turns", ((0, 2 * ONE), (ONE // 2, 2 * ONE))), ("falls", ((ONE // 5, ONE // 4),)), ("rated", ((0, ONE), (ONE, 13 * ONE // 10)))]:
            own, course = KNOWN[name]
            counts = (8,) if name == "falls" else (2, 6)
            told = self.check_table(own, STARTS[name], counts, ONE, target, ("settings", "set", 5, ONE // 4, ONE // 64, 20, 2 ** 60, 9))
            self.check_courses(told, course, random)
            self.assertTrue(sure_in(told) or sure_out(told))

    def test_spent(self):
        burst = system("x", [((2,), (1, 1))])
        told = self.check_table(burst, ((0, 3 * ONE),), (6,), ONE, ((0, 9 * ONE),), FEW)
        self.assertEqual([row[0] for row in told[6]][-1], "spent")
        self.assertEqual(told[6][0][0], "in")
        self.assertEqual(sure_out(told), [])
        # The time 0: no papers are needed.
        told = self.check_table(burst, ((0, 3 * ONE),), (3,), 0, ((0, ONE),), FEW)
        self.assertEqual([row[0] for row in told[6]], ["in", "perhaps", "out"])


class TestFiner(unittest.TestCase):
    def check_finer(self, told, position, settings):
        """Finer cells within sure ones have their rows, others are those of a table."""
        made = finer(told, position, settings)
        _, own, box, counts, time, target, rows = told
        doubled = with_part(counts, position, 2 * counts[position])
        self.assertEqual(made[:6], with_part(told[:6], 3, doubled))
        self.assertIs(is_table(made), True)
        anew = table(own, box, doubled, time, target, settings)
        for k, cell in enumerate(cells(doubled)):
            piece = cell_box(box, doubled, cell)
            sure = [row for old, row in zip(cells(counts), rows) if row[0] in ("in", "out") and box_within(piece, cell_box(box, counts, old))]
            self.assertEqual(made[6][k], sure[0] if sure else anew[6][k])
            # [145]: cut 2 k of the finer grid is cut k of the old one.
            old = with_part(cell, position, cell[position] // 2)
            self.assertIs(box_within(piece, cell_box(box, counts, old)), True)
        return made

    def test_finer(self):
        made = self.check_finer(TOLD, 0, SETTINGS)
        self.assertEqual([row[0] for row in made[6]], ["in"] * 4 + ["perhaps", "out", "out", "out"])
        again = self.check_finer(made, 0, SETTINGS)
        self.assertEqual([row[0] for row in again[6]], ["in"] * 8 + ["perhaps"] + ["out"] * 7)
        told = table(TURNS, STARTS["turns"], (2, 2), ONE // 2, ((0, ONE), (ONE // 2, ONE)), FEW)
        for position in (0, 1):
            self.check_finer(told, position, FEW)
        refuses(finer, InvalidPosition, {"value": 2}, told, 2, FEW)

    def test_kept_rows(self):
        # What is kept is the old row, though it be of another run than would be made.
        sets = run_to(STILL, ((0, 2 * G),), 2 * G, plain_settings("set", 2))[1]
        rows = [("in", sets), ("in", sets)] + TOLD[6][2:]
        made = self.check_finer(with_part(TOLD, 6, rows), 0, SETTINGS)
        self.assertEqual(made[6][:4], [("in", sets)] * 4)
        self.assertEqual(made[6][6:], [TOLD[6][3]] * 2)

    def test_cells_of_points(self):
        """Finer cells that lie within several old ones have the row of the first that is sure."""
        none = ("run", STILL, ((3, 3),), ())
        one, other, third = (run_to(STILL, ((3, 3),), time, FEW)[1] for time in (G, 2 * G, 3 * G))
        for words, kept in [(["in", "in", "in"], 0), (["spent", "in", "in"], 1), (["spent", "spent", "in"], 2)]:
            rows = [("spent", none) if told == "spent" else (told, run) for told, run in zip(words, (one, other, third))]
            value = ("table", STILL, ((3, 3),), (3,), G, ((0, 9),), rows)
            self.assertIs(is_table(value), True)
            made = self.check_finer(value, 0, FEW)
            self.assertEqual(made[6], [rows[kept]] * 6)

    def test_too_many(self):
        settings = ("settings", "box", 1, G, G, 1, G, 1)
        for counts, position, doubled, is_good in [
                ((64,), 0, (128,), False), ((33,), 0, (66,), False), ((32,), 0, (64,), True), ((10, 10), 0, (20, 10), False),
                ((10, 10), 1, (10, 20), False), ((50, 1), 1, (50, 2), True), ((50, 2), 1, (50, 4), False), ((51, 1), 1, (51, 2), False),
                ((32, 1), 0, (64, 1), True), ((1, 64), 0, (2, 64), False)]:
            box = ((0, 4 * G),) * len(counts)
            own = ("system", ("x", "y")[:len(counts)], ((),) * len(counts))
            told = table(own, box, counts, 0, box, settings)
            if is_good:
                self.assertEqual(finer(told, position, settings)[3], doubled)
            else:
                refuses(finer, InvalidCounts, {"value": doubled}, told, position, settings)

    def test_counts_behind_settings(self):
        told = table(STILL, ((0, 4 * G),), (64,), 0, TARGET, SETTINGS)
        refuses(finer, InvalidPosition, {"value": 1}, told, 1, None)
        refuses(finer, InvalidSettings, {"value": None}, told, 0, None)
        refuses(finer, InvalidCounts, {"value": (128,)}, told, 0, SETTINGS)
