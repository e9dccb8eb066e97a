"""[171] to [174]: desks."""

import unittest
from fractions import Fraction
from random import Random

from tests.courses import lies_in, starts
from tests.support import MOST, ONE, OTHERS, caught
from tests.test_commands import DEEDS, QUESTIONS
from tests.test_crossings import LONG
from tests.test_runs import NONE_YET, TURNED, TWICE
from tests.test_whole_way import exp
from truecourse.boxes import is_box
from truecourse.commands import box_text, interval_text
from truecourse.crossings import stretches
from truecourse.desk import Desk
from truecourse.errors import (
    BadRecord, BadText, CommandFailed, InvalidCommand, InvalidDegree, InvalidMany, InvalidDeeds, InvalidRoom, InvalidTime, NameTaken, NoRun,
    NotThere, NothingToRedo, NothingToUndo, TooMany, UnknownLetter, UnknownName, UnlikeLetters)
from truecourse.flattening import flattened
from truecourse.kept import kept_polys
from truecourse.parser import parse_model
from truecourse.polytexts import parse_poly, poly_text
from truecourse.printer import model_text
from truecourse.ranges import plain_range
from truecourse.records import parse_record, record_text
from truecourse.runners import run as run_to
from truecourse.runs import box_at, box_between, end_time, is_run
from truecourse.settings import plain_settings

FALL = "given k = 1/10 to 1/5\nletter x = 1 to 3/2\nslope x = -k * x"
TURN = "letter x = 1\nletter y = 0 to 1/10\nslope x = -y\nslope y = x"
FIRST = [f"model m {FALL}", "flat f m", "run r f 1 box 4", "guard g f x - 1", f"model n {TURN}", "flat e n", "run s e 1/2 set 3", "guard h e x^2 + y^2 - 1"]


def desk_of(*commands):
    desk = Desk()
    desk.do_all(*commands)
    return desk


def state(desk):
    return (desk.names(), [desk[name] for name in desk.names()], desk.lines(), len(desk), undone(desk))


def undone(desk):
    """The lines that can be done again."""
    twin, found = desk.twin(), []
    while True:
        try:
            found.append(twin.do("redo"))
        except NothingToRedo:
            return found


class DeskCase(unittest.TestCase):
    def refuses(self, desk, error, attributes, command):
        """The command fails with this error, whichever way it is told, and nothing is changed."""
        before = state(desk)
        for call in (desk.do, desk):
            found = caught(error, call, command) if call is not desk else self.called(error, desk, command)
            for name, wanted in attributes.items():
                self.assertEqual(getattr(found, name), wanted)
                self.assertIs(getattr(found, name).__class__, wanted.__class__)
        failed = caught(CommandFailed, desk.do_all, "names", command, "names")
        self.assertEqual(failed.position, 1)
        self.assertIs(failed.__cause__.__class__, error)
        self.assertEqual({name: getattr(failed.__cause__, name) for name in attributes}, attributes)
        self.assertEqual(state(desk), before)

    def called(self, error, desk, command):
        with self.assertRaises(error) as held:
            desk(command)
        return held.exception


class TestThings(DeskCase):
    def test_example(self):
        desk = Desk()
        self.assertEqual(desk.do_all(
            "model m letter x = 1\nslope x = 1", "flat f m", "show f", "start f x 0..1", "begins f", "run r f 0 box 2", "show r", "guard g f x - 2",
            "value r g 0", "undo", "names", "kept f 1"),
            ["-", "-", "x' = 1", "-", "0..1", "whole", "box 0 0", "-", "-2..-1", "guard g f x - 2", "f m r", "none"])

    def test_empty(self):
        desk = Desk()
        self.assertEqual((desk.names(), len(desk), desk.lines(), desk.do("names")), ([], 0, [], "-"))
        for value in OTHERS + ["a", "", 3, (), ("a",), b"a", 5]:
            self.assertIs(value in desk, False)
            found = caught(UnknownName, lambda: desk[value])
            self.assertIs(found.value, value)

    def test_kept(self):
        desk = desk_of(*FIRST)
        self.assertEqual(desk.names(), list("efghmnrs"))
        self.assertEqual(desk.do("names"), "e f g h m n r s")
        self.assertEqual(desk["m"], parse_model(FALL))
        self.assertEqual(desk["f"], flattened(parse_model(FALL)))
        self.assertEqual(desk["g"], parse_poly("x - 1", ["x", "k"]))
        system, box = desk["f"][1:3]
        self.assertEqual(desk["r"], run_to(system, box, ONE, plain_settings("box", 4))[1])
        self.assertEqual(desk["s"], run_to(desk["e"][1], desk["e"][2], ONE // 2, plain_settings("set", 3))[1])
        for name in desk.names():
            self.assertIs(name in desk, True)
        for value in OTHERS + ["a", "M", "m ", "", 3, ["m"], ("m",)]:
            self.assertIs(value in desk, False)
        told = desk.names()
        told.append("z")
        desk.lines().append("drop m")
        self.assertEqual((desk.names(), desk.lines()), (list("efghmnrs"), FIRST))

    def test_not_iterated(self):
        with self.assertRaises(TypeError):
            iter(desk_of(*FIRST[:2]))

    def test_start(self):
        desk = desk_of(*FIRST[:3])
        before = desk["f"]
        self.assertEqual(desk("start f x 1/3..2"), "-")
        self.assertEqual(desk["f"], (before[0], before[1], ((366503875925, 2 * ONE), before[2][1]), before[3]))
        desk.do("start f k 1/3")
        self.assertEqual(desk["f"][2][1], (366503875925, 366503875926))
        desk.do("start f x -1/3..-1/3")
        self.assertEqual(desk["f"][2][0], (-366503875926, -366503875925))
        self.assertEqual(desk.do("begins f"), box_text(desk["f"][2]))
        # What is kept does not hang on other names: the run is as it was.
        self.assertEqual(desk["r"], desk_of(*FIRST[:3])["r"])
        self.refuses(desk, UnknownLetter, {"name": "y"}, "start f y 1")
        self.refuses(desk, UnknownLetter, {"name": "y"}, "start f y 999999999999")
        self.refuses(desk, TooMany, {"what": "grains", "limit": MOST}, "start f x 999999999999")
        self.refuses(desk, TooMany, {"what": "grains", "limit": MOST}, "start f x -1073741825..0")
        desk.do("start f x -1073741824..1073741824")
        self.assertEqual(desk["f"][2][0], (-MOST, MOST))
        # Added letters can be told anew, too.
        desk.do_all("model q letter x = 1\nslope x = 1 / x", "flat p q", "start p q1 2")
        self.assertEqual(desk["p"][2][1], (2 * ONE, 2 * ONE))

    def test_own_things(self):
        desk = desk_of(*FIRST[:4])
        desk.do_all("drop m", "drop f")
        self.assertEqual(desk.names(), ["g", "r"])
        self.assertEqual(desk.do("show g"), "-1 + x")
        self.assertEqual(desk.do("judged r"), "ok")
        self.assertEqual(desk.do("value r g 0"), interval_text(plain_range(desk["g"], desk["r"][2])))

    def test_copy_and_drop(self):
        desk = desk_of(*FIRST)
        for name, other in [("m", "m2"), ("f", "f2"), ("g", "g2"), ("r", "r2")]:
            self.assertEqual(desk.do(f"copy {other} {name}"), "-")
            self.assertEqual(desk[other], desk[name])
            self.assertEqual(desk.do(f"show {other}"), desk.do(f"show {name}"))
            self.assertEqual(desk.do(f"same {name} {other}"), "yes")
            self.assertEqual(desk.do(f"drop {name}"), "-")
            self.assertIs(name in desk, False)
            self.refuses(desk, UnknownName, {"value": name}, f"show {name}")
        desk.do("start f2 x 5")
        self.assertNotEqual(desk["f2"], desk_of(*FIRST)["f"])

    def test_runs(self):
        desk = desk_of(*FIRST)
        self.assertEqual(desk.do("run a f 1/2 set 5"), "whole")
        # A run that is spent is kept, too; the word is told.
        desk.do_all("model b letter x = 1\nslope x = x^2", "flat c b")
        answer = desk.do("run d c 2 box 4")
        told = run_to(desk["c"][1], desk["c"][2], 2 * ONE, plain_settings("box", 4))
        self.assertEqual(answer, "spent " + told[2])
        self.assertEqual(desk["d"], told[1])
        # The time is the greatest number of grains at most it.
        desk.do("run i f 1/7 box 3")
        self.assertEqual(end_time(desk["i"]), ONE // 7)
        for command, error, attributes in [
                ("run z f 1 box 0", InvalidMany, {"value": 0}), ("run z f 1 box 9", InvalidMany, {"value": 9}), ("run z f 1 set 99", InvalidMany, {"value": 99}),
                ("run z f 481 box 4", InvalidTime, {"value": 481 * ONE}), ("run z f 481 box 0", InvalidMany, {"value": 0})]:
            self.refuses(desk, error, attributes, command)
        desk.do("model j letter x = 1\nslope x = 0")
        desk.do("flat k j")
        self.assertEqual(desk.do("run l k 480 box 1"), "spent steps")

    def test_cut(self):
        desk = desk_of(*FIRST)
        many = len(desk["r"][3])
        for count in (0, 1, many - 1, many, many + 1, 99):
            desk.do(f"cut c r {count}")
            self.assertEqual(desk["c"], desk["r"][:3] + (desk["r"][3][:count],))
            self.assertIs(is_run(desk["c"]), True)
            desk.do("drop c")

    def test_read_and_rescue(self):
        for run in (TWICE, NONE_YET, TURNED):
            text = record_text(run)
            desk = desk_of("read a " + text, "rescue b " + text)
            self.assertEqual((desk["a"], desk["b"]), (run, run))
            self.assertEqual(desk.do("record a"), text)
            self.assertEqual(desk.do("same a b"), "yes")
            cut = text[:len(text) - 5]
            wrong = caught(BadRecord, parse_record, cut).position
            self.refuses(desk, BadRecord, {"position": wrong}, "read c " + cut)
            desk.do("rescue c " + cut)
            self.assertEqual(desk["c"][:3], run[:3])
            self.refuses(desk, BadRecord, {"position": 1}, "read d x")
            self.refuses(desk, NoRun, {}, "rescue d x")
            self.refuses(desk, NoRun, {}, "rescue d " + text[:20])

    def test_models_and_guards(self):
        desk = desk_of(*FIRST[:2])
        self.refuses(desk, BadText, {"position": 8}, "model z letter x")
        self.refuses(desk, BadText, {"position": 1}, "model z  ")
        self.refuses(desk, BadText, {"position": 4}, "guard z f x - y")
        self.refuses(desk, TooMany, {"what": "degree", "limit": 8}, "guard z f x^8*k")
        desk.do("model z letter x = 1\nslope x = 1 / (x - x)")
        self.refuses(desk, NotThere, {}, "flat y z")
        desk.do("guard w f  k*x - 2 ")
        self.assertEqual(desk.do("show w"), poly_text(desk["w"], ["x", "k"]))


class TestErrors(DeskCase):
    def test_invalid(self):
        desk = desk_of(*FIRST)
        for value in OTHERS + [3, "", "Undo", "show", "show m m", "model m", "run r f -1 box 4", ("undo",), ["undo"], "names "]:
            self.refuses(desk, InvalidCommand, {"value": value}, value)

    def test_sequence(self):
        """NameTaken, UnknownName by the first name, UnlikeLetters, then what the tables and functions tell."""
        desk = desk_of(*FIRST)
        taken, unknown = NameTaken, UnknownName
        for command, error, attributes in [
                (f"model m {FALL}", taken, {"name": "m"}), ("model m x", taken, {"name": "m"}), ("flat f m", taken, {"name": "f"}), ("flat f zz", taken, {"name": "f"}),
                ("flat a zz", unknown, {"value": "zz"}), ("flat a f", unknown, {"value": "f"}), ("flat a a", unknown, {"value": "a"}),
                ("start m x 1", unknown, {"value": "m"}), ("start zz x 1", unknown, {"value": "zz"}), ("guard r m x", taken, {"name": "r"}),
                ("guard a m x", unknown, {"value": "m"}), ("guard a zz ?", unknown, {"value": "zz"}), ("run g zz 1 box 0", taken, {"name": "g"}),
                ("run a m 1 box 0", unknown, {"value": "m"}), ("cut r zz 1", taken, {"name": "r"}), ("cut a f 1", unknown, {"value": "f"}),
                ("read r x", taken, {"name": "r"}), ("rescue r x", taken, {"name": "r"}), ("copy m zz", taken, {"name": "m"}), ("copy a zz", unknown, {"value": "zz"}),
                ("copy m m", taken, {"name": "m"}), ("drop zz", unknown, {"value": "zz"}), ("show zz", unknown, {"value": "zz"}), ("begins m", unknown, {"value": "m"}),
                ("at f 1", unknown, {"value": "f"}), ("at zz 999", unknown, {"value": "zz"}), ("between g 0 1", unknown, {"value": "g"}),
                ("value r zz 0", unknown, {"value": "zz"}), ("value zz yy 0", unknown, {"value": "zz"}), ("value g r 0", unknown, {"value": "g"}),
                ("value r r 0", unknown, {"value": "r"}), ("kept r 1", unknown, {"value": "r"}), ("crosses r f 1", unknown, {"value": "f"}),
                ("crosses zz g 9", unknown, {"value": "zz"}), ("judged f", unknown, {"value": "f"}), ("record m", unknown, {"value": "m"}),
                ("same zz m", unknown, {"value": "zz"}), ("same m f", unknown, {"value": "f"}), ("same m zz", unknown, {"value": "zz"}), ("same g r", unknown, {"value": "r"})]:
            self.refuses(desk, error, attributes, command)
        # Unlike numbers of letters come ahead of rooms and times.
        desk.do_all("model t letter x = 0\nslope x = 1", "flat u t", "run v u 1 box 2", "guard w u x")
        for command in ("value r w 99", "crosses r w 99", "crosses v g 0", "value v h 0"):
            self.refuses(desk, UnlikeLetters, {}, command)
        # Of two systems of as many letters, be they others: it is reckoned.
        self.assertEqual(desk.do("value s g 0"), interval_text(plain_range(desk["g"], desk["s"][2])))
        for command, error, attributes in [
                ("crosses r g 7", InvalidRoom, {"value": 7}), ("crosses r g 99", InvalidRoom, {"value": 99}), ("kept f 0", InvalidDegree, {"value": 0}),
                ("kept f 5", InvalidDegree, {"value": 5}), ("at r 3/2", InvalidTime, {"value": 3 * ONE // 2}), ("value r g 3/2", InvalidTime, {"value": 3 * ONE // 2}),
                ("between r 0 3/2", InvalidTime, {"value": 3 * ONE // 2}), ("between r 1/2 1/4", InvalidTime, {"value": ONE // 4}),
                ("between r 2 3", InvalidTime, {"value": 2 * ONE})]:
            self.refuses(desk, error, attributes, command)

    def test_names(self):
        """16 names, and one more: behind the errors of the functions, ahead of those of the deeds."""
        desk = desk_of(*FIRST)
        for k in range(8):
            desk.do(f"copy c{k} m")
        self.assertEqual(len(desk.names()), 16)
        for command in (f"model z {FALL}", "copy z m", "flat z m", "read z " + record_text(NONE_YET), "run z f 0 box 1", "guard z f x", "cut z r 0"):
            self.refuses(desk, TooMany, {"what": "names", "limit": 16}, command)
        self.refuses(desk, BadText, {"position": 0}, "model z ?")
        self.refuses(desk, NameTaken, {"name": "m"}, "copy m f")
        self.refuses(desk, InvalidMany, {"value": 9}, "run z f 0 box 9")
        self.assertEqual(desk.do("start f x 2"), "-")
        self.assertEqual(desk.do("drop c0"), "-")
        self.assertEqual(desk.do("copy z m"), "-")

    def test_deeds(self):
        """200 deeds, and one more."""
        desk = desk_of(f"model m {FALL}", "flat f m")
        for k in range(198):
            desk.do(f"start f x {k}")
        self.assertEqual(len(desk), 200)
        self.assertEqual(len(desk.lines()), 200)
        limit = {"what": "deeds", "limit": 200}
        for command in ("start f x 1", "drop m", "copy a m"):
            self.refuses(desk, TooMany, limit, command)
        self.refuses(desk, UnknownLetter, {"name": "z"}, "start f z 1")
        self.assertEqual(desk.do("begins f").partition(",")[0], "197..197")
        twin = desk.twin()
        self.assertEqual(desk.do("undo"), "start f x 197")
        self.assertEqual(desk.do("drop m"), "-")
        self.assertEqual(len(desk), 200)
        # What is undone can be done again, all 200 of them.
        twin.do_all("undo", "undo", "redo", "redo")
        self.assertEqual(len(twin), 200)
        self.assertEqual(Desk.again(desk.lines()).lines(), desk.lines())
        found = caught(CommandFailed, Desk.again, desk.lines() + ["copy a f"])
        self.assertEqual((found.position, found.__cause__.what), (200, "deeds"))

    def test_names_ahead_of_deeds(self):
        desk = desk_of(f"model m {FALL}", "flat f m", *[f"copy c{k} m" for k in range(14)])
        for k in range(184):
            desk.do(f"start f x {k}")
        self.assertEqual((len(desk), len(desk.names())), (200, 16))
        self.refuses(desk, TooMany, {"what": "names", "limit": 16}, "copy z m")
        self.refuses(desk, TooMany, {"what": "deeds", "limit": 200}, "start f x 1")


class TestUndo(DeskCase):
    def test_none(self):
        desk = Desk()
        self.refuses(desk, NothingToUndo, {}, "undo")
        self.refuses(desk, NothingToRedo, {}, "redo")
        desk.do(f"model m {FALL}")
        self.refuses(desk, NothingToRedo, {}, "redo")
        desk.do("undo")
        self.refuses(desk, NothingToUndo, {}, "undo")

    def test_back_and_again(self):
        desk, states = Desk(), [state(Desk())[:4]]
        lines = FIRST + ["start f x 7", "copy a f", "drop m", "cut c r 1", "read d " + record_text(TWICE), "rescue t " + record_text(TURNED)]
        for line in lines:
            desk.do(line)
            states.append(state(desk)[:4])
        for k in range(len(lines) - 1, -1, -1):
            self.assertEqual(desk.do("undo"), lines[k])
            self.assertEqual(state(desk)[:4], states[k])
            self.assertEqual(undone(desk), lines[k:])
        for k, line in enumerate(lines):
            self.assertEqual(desk.do("redo"), line)
            self.assertEqual(state(desk)[:4], states[k + 1])
        self.refuses(desk, NothingToRedo, {}, "redo")

    def test_deeds_between(self):
        desk = desk_of(*FIRST[:4])
        desk.do("undo")
        desk.do("undo")
        # Questions, and commands that fail, are no deeds; a deed between ends it.
        for command in ("names", "show f", "begins f"):
            desk.do(command)
        self.refuses(desk, NameTaken, {"name": "m"}, "copy m f")
        self.assertEqual(desk.do("redo"), FIRST[2])
        self.assertEqual(desk.do("copy q f"), "-")
        self.refuses(desk, NothingToRedo, {}, "redo")
        self.assertEqual(desk.lines(), FIRST[:3] + ["copy q f"])
        self.assertEqual(len(desk), 4)

    def test_twins(self):
        desk = desk_of(*FIRST[:4])
        desk.do("undo")
        twin = desk.twin()
        self.assertIs(twin.__class__, Desk)
        self.assertEqual(state(twin), state(desk))
        before = state(desk)
        self.assertEqual(twin.do("redo"), FIRST[3])
        twin.do("drop m")
        self.assertEqual(state(desk), before)
        before = state(twin)
        desk.do_all("undo", "undo", "copy z m")
        self.assertEqual(state(twin), before)


class TestRows(DeskCase):
    def test_do_all(self):
        desk = Desk()
        self.assertEqual(desk.do_all(), [])
        self.assertEqual(desk.do_all(*FIRST), ["-", "-", "whole", "-", "-", "-", "whole", "-"])
        self.assertEqual(desk.do_all("undo", "redo", "names"), [FIRST[7], FIRST[7], "e f g h m n r s"])

    def test_failing_rows(self):
        """A row that fails at its first, a middle, its last command has no effect."""
        for at in range(5):
            desk = desk_of(*FIRST[:3])
            desk.do("undo")
            row = ["copy a m", "undo", "copy b m", "drop f", "names"]
            row[at] = "drop zz"
            before = state(desk)
            found = caught(CommandFailed, desk.do_all, *row)
            self.assertEqual(found.position, at)
            self.assertIsInstance(found.__cause__, UnknownName)
            self.assertEqual(found.__cause__.value, "zz")
            self.assertEqual(state(desk), before)
            self.assertEqual(desk.do("redo"), FIRST[2])
        desk = desk_of(*FIRST[:1])
        for wrong in [None, True, 3, "", ["names"]]:
            found = caught(CommandFailed, desk.do_all, "names", wrong)
            self.assertEqual((found.position, found.__cause__.__class__), (1, InvalidCommand))
            self.assertIs(found.__cause__.value, wrong)
        found = caught(CommandFailed, desk.do_all, "undo", "undo")
        self.assertEqual((found.position, found.__cause__.__class__, len(desk)), (1, NothingToUndo, 1))

    def test_again(self):
        desk = desk_of(*FIRST)
        desk.do_all("start f x 3", "undo", "drop g", "read z " + record_text(TWICE))
        for lines in (desk.lines(), tuple(desk.lines())):
            made = Desk.again(lines)
            self.assertIs(made.__class__, Desk)
            self.assertEqual(state(made)[:4], state(desk)[:4])
            self.assertEqual(undone(made), [])
        self.assertEqual(state(Desk.again([])), state(Desk()))
        self.assertEqual(Desk.again(lines=[]).names(), [])
        for lines in OTHERS[:-1] + [3, "names"]:
            self.assertIsNone(caught(InvalidDeeds, Desk.again, lines).position)
        for lines, at in [(["names"], 0), ([FIRST[0], "undo"], 1), ([FIRST[0], FIRST[1], None], 2), ([None], 0), ([True, "x"], 0), (FIRST + [["drop m"]], 8),
                          (["drop zz", "show m"], 1)]:
            self.assertEqual(caught(InvalidDeeds, Desk.again, lines).position, at)
        for lines, at, error in [(["drop zz"], 0, UnknownName), (FIRST + ["copy m f"], 8, NameTaken), ([FIRST[0], "model q ?"], 1, BadText)]:
            found = caught(CommandFailed, Desk.again, lines)
            self.assertEqual((found.position, found.__cause__.__class__), (at, error))

    def test_called(self):
        desk = Desk()
        self.assertEqual(desk(FIRST[0]), "-")
        self.assertEqual(desk.do(command="names"), "m")
        self.assertEqual(desk(command="names"), "m")

    def test_drawn(self):
        """A desk done again by its lines is the same desk, whatever was undone, redone, or failed."""
        random = Random(172)
        for _ in range(12):
            desk = Desk()
            for _ in range(30):
                name, other = random.choice("abcde"), random.choice("abcde")
                command = random.choice([
                    f"model {name} letter x = 1\nslope x = -x", f"flat {name} {other}", f"start {name} x {random.randint(0, 3)}", f"guard {name} {other} x - 1",
                    f"run {name} {other} 1/4 box 2", f"cut {name} {other} 0", f"copy {name} {other}", f"drop {name}", "undo", "undo", "redo", f"show {name}"])
                before = state(desk)
                try:
                    desk.do(command)
                except (NameTaken, UnknownName, NothingToUndo, NothingToRedo):
                    self.assertEqual(state(desk), before)
            self.assertEqual(state(Desk.again(desk.lines()))[:4], state(desk)[:4])
            self.assertEqual(len(desk.lines()), len(desk))

    def test_all_commands(self):
        # Each command of the tables is known to a desk.
        for command in DEEDS + QUESTIONS:
            desk = Desk()
            try:
                desk.do(command)
            except InvalidCommand:
                self.fail(command)
            except (UnknownName, NothingToUndo, NothingToRedo, BadText, BadRecord, NoRun):
                pass


class TestAnswers(DeskCase):
    def test_show(self):
        desk = desk_of(*FIRST)
        self.assertEqual(desk.do("show m"), model_text(parse_model(FALL)))
        self.assertEqual(desk.do("show f"), "x' = -x*k\nk' = 0")
        self.assertEqual(desk.do("show e"), "x' = -y\ny' = x")
        self.assertEqual(desk.do("show g"), "-1 + x")
        self.assertEqual(desk.do("show h"), "-1 + y^2 + x^2")
        self.assertEqual(desk.do("show r"), f"box {len(desk['r'][3])} 1")
        self.assertEqual(desk.do("show s"), f"set {len(desk['s'][3])} 1/2")
        desk.do_all("cut c s 0", "run d f 1/3 box 2")
        self.assertEqual(desk.do("show c"), "box 0 0")
        self.assertEqual(desk.do("show d").split(" ")[2], f"{(ONE // 3)}/{ONE}")

    def test_boxes(self):
        desk = desk_of(*FIRST)
        self.assertEqual(desk.do("begins f"), box_text(desk["f"][2]))
        self.assertEqual(desk.do("begins e"), "1..1, 0.." + interval_text(desk["e"][2][1]).partition("..")[2])
        for name, times in [("r", ["0", "1/3", "1/2", "1"]), ("s", ["0", "1/7", "1/2"])]:
            for early in times:
                first = int(Fraction(early) * ONE)
                self.assertEqual(desk.do(f"at {name} {early}"), box_text(box_at(desk[name], first)))
                for late in times:
                    last = int(Fraction(late) * ONE)
                    if first <= last:
                        self.assertEqual(desk.do(f"between {name} {early} {late}"), box_text(box_between(desk[name], first, last)))
        for time in ("0", "1/2", "1"):
            wanted = plain_range(desk["g"], box_at(desk["r"], int(Fraction(time) * ONE)))
            self.assertEqual(desk.do(f"value r g {time}"), interval_text(wanted))
        desk.do("guard o f 0")
        self.assertEqual(desk.do("value r o 1"), "0..0")

    def test_kept(self):
        desk = desk_of(*FIRST)
        self.assertEqual(desk.do("kept f 1"), "k")
        self.assertEqual(desk.do("kept e 1"), "none")
        self.assertEqual(desk.do("kept e 2"), "y^2 + x^2")
        self.assertEqual(desk.do("kept e 4"), "\n".join(poly_text(poly, ["x", "y"]) for poly in kept_polys(desk["e"][1], 4)))

    def test_crosses(self):
        desk = desk_of(*FIRST)
        for room in range(3):
            told = stretches(desk["r"], desk["g"], room)
            wanted = ", ".join(" ".join([part[0], str(Fraction(part[1], ONE)), str(Fraction(part[2], ONE))] + list(part[3:])) for part in told)
            self.assertEqual(desk.do(f"crosses r g {room}"), wanted)
        desk.do_all("model q letter x = -1 to -1/2\nslope x = 1", "flat p q", "guard o p x - 1", "run t p 4 box 2", "cut z t 0", "guard i p -2 - x",
                    "read l " + record_text(LONG))
        self.assertEqual(desk.do("crosses l o 0"), "once 0 4 up")
        self.assertTrue(desk.do("crosses t o 0").startswith("never 0 1/4 below, never 1/4 1/2 below"))
        self.assertEqual(desk.do("crosses z o 3"), "")
        self.assertTrue(desk.do("crosses t i 0").startswith("never 0 1/4 below, never 1/4 1/2 below"))
        self.assertTrue(desk.do("crosses s h 0").startswith("perhaps 0 1/4, perhaps"))

    def test_judged_and_records(self):
        desk = desk_of(*FIRST)
        self.assertEqual([desk.do("judged r"), desk.do("judged s")], ["ok", "ok"])
        for name in "rs":
            self.assertEqual(desk.do(f"record {name}"), record_text(desk[name]))
            self.assertEqual(desk.do(f"read {name}2 " + desk.do(f"record {name}")), "-")
            self.assertEqual(desk.do(f"same {name} {name}2"), "yes")

    def test_same(self):
        desk = desk_of(*FIRST, "copy m2 m", "copy f2 f", "start f2 x 1..3/2", "copy f3 f", "start f3 x 5", "guard g2 f -1 + x", "guard g3 e x - 1", "cut r2 r 99")
        for one, other, told in [("m", "m2", "yes"), ("m", "n", "no"), ("f", "f2", "yes"), ("f", "f3", "no"), ("f", "e", "no"), ("g", "g2", "yes"), ("g", "h", "no"),
                                 # Of guards the polys alone count.
                                 ("g", "g3", "yes"), ("r", "r2", "yes"), ("r", "s", "no"), ("m", "m", "yes")]:
            self.assertEqual(desk.do(f"same {one} {other}"), told, (one, other))

    def test_questions_change_nothing(self):
        desk = desk_of(*FIRST)
        desk.do("undo")
        before = state(desk)
        for command in ["names", "show r", "begins f", "at r 1/2", "between r 0 1", "value r g 1", "kept f 2", "crosses r g 1", "judged r", "record s", "same m n"]:
            self.assertEqual(desk.do(command), desk.do(command))
            self.assertEqual(state(desk), before)

    def test_facts(self):
        """[174]: what is answered of a run holds for all courses from its start box."""
        random = Random(174)
        desk = desk_of(f"model m {FALL}", "flat f m", "start f x 1..2", "run a f 2 set 5", "record a", "copy b a", "guard g f x - 1")
        desk.do("rescue c " + desk.do("record b")[:-40])
        start = desk["c"][2]
        self.assertIs(is_box(start), True)
        end = end_time(desk["c"])
        for point in starts(start, random, 4):
            for time in [Fraction(0), Fraction(end, ONE), Fraction(1, 3), Fraction(5, 4)]:
                row = (point[0] * exp(-point[1] * time), point[1])
                at = f"{time.numerator}/{time.denominator}".replace("/1", "") if time.denominator == 1 else f"{time.numerator}/{time.denominator}"
                if len(at.replace("/", "")) > 12:
                    continue
                grains = int(time * ONE)
                boxes = [tuple(tuple(int(Fraction(x) * ONE) for x in part.split("..")) for part in answer.split(", "))
                         for answer in (desk.do(f"at c {at}"), desk.do(f"between c 0 {at}"))]
                self.assertEqual(boxes[0], box_at(desk["c"], grains))
                exact = (point[0] * exp(-point[1] * Fraction(grains, ONE)), point[1])
                self.assertTrue(all(lies_in(exact, box) for box in boxes))
                low, high = (Fraction(x) for x in desk.do(f"value c g {at}").split(".."))
                self.assertTrue(low <= exact[0] - 1 <= high)
                self.assertTrue(abs(exact[0] - row[0]) < Fraction(1, 10 ** 9))
