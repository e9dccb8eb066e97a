"""[171] to [174]: commands by their words alone, and how intervals and boxes are written."""

import unittest
from fractions import Fraction
from random import Random

from tests.reference import some_interval
from tests.support import BOX, INTERVAL, ONE, OTHERS, check_calls
from truecourse.boxes import is_box
from truecourse.commands import box_text, interval_text, is_command, is_deed

DEEDS = [
    "model m x", "flat f m", "start f x 1/2..3", "guard g f x - 2", "run r f 3/2 box 4", "cut r2 r 7", "read r 7 3460 run", "rescue r x",
    "copy a b", "drop a"]
QUESTIONS = [
    "undo", "redo", "names", "show a", "begins f", "at r 3/2", "between r 0 3/2", "value r g 1", "kept f 2", "crosses r g 6", "judged r",
    "record r", "same a b"]
WITH_TEXT = ("model", "guard", "read", "rescue")
GOOD_NAMES = ["a", "z9", "abcdefgh", "to", "letter", "undo", "a1234567", "x0"]
BAD_NAMES = ["", "A", "9a", "abcdefghi", "a_b", "a-b", "a.b", "aB", "-", "a\n", "a,"]
GOOD_NUMBERS = ["0", "1", "-1", "1/2", "-3/2", "999999999999", "-999999999999", "123456/789013", "1/99999999999", "10"]
BAD_NUMBERS = ["", "-", "--1", "-0", "00", "01", "1/1", "2/4", "0/5", "1/0", "1/", "/2", "1/-2", "0.5", "+1", "1e3", "1000000000000", "1/100000000000",
               "1234567/890123", "x", "1 ", "1/2/3", "1..", "-01", "1/02", "1\n"]


def bent(command, place, part):
    words = command.split(" ")
    return " ".join(words[:place] + [part] + words[place + 1:])


class TestCommands(unittest.TestCase):
    def test_errors(self):
        check_calls(self, is_command, [("value", "undo", (None, []))])
        check_calls(self, is_deed, [("value", "drop a", (None, []))])
        check_calls(self, interval_text, [("interval", (0, 5), INTERVAL)])
        check_calls(self, box_text, [("box", ((0, 5),), BOX)])

    def test_each(self):
        for command in DEEDS + QUESTIONS:
            self.assertIs(is_command(command), True, command)
            self.assertIs(is_deed(command), command in DEEDS, command)

    def test_other_kinds(self):
        for value in OTHERS + [3, (), ("undo",), ["undo"], "", " ", "Undo", "und", "undoo", "help", "model", "\n", "undo\n", " undo", "undo ", "x y z", b"undo"]:
            self.assertIs(is_command(value), False, value)
            self.assertIs(is_deed(value), False, value)

    def test_parts_left_out_and_doubled(self):
        for command in DEEDS + QUESTIONS:
            words = command.split(" ")
            has_text = words[0] in WITH_TEXT
            for k in range(len(words)):
                fewer = " ".join(words[:k] + words[k + 1:])
                if not (has_text and k > 0 and len(words) > (4 if words[0] == "guard" else 3)):
                    self.assertIs(is_command(fewer), False, fewer)
                more = " ".join(words[:k + 1] + words[k:])
                if not has_text:
                    self.assertIs(is_command(more), False, more)
                blanks = " ".join(words[:k]) + "  " + " ".join(words[k:])
                if not has_text:
                    self.assertIs(is_command(blanks), False, blanks)
            self.assertIs(is_command(command + " "), has_text, command)
            self.assertIs(is_command(" " + command), False)
            self.assertIs(is_command(command + "\n"), has_text, command)
            self.assertIs(is_command(command.upper()), False)

    def test_names(self):
        places = {
            "model": [1], "flat": [1, 2], "start": [1], "guard": [1, 2], "run": [1, 2], "cut": [1, 2], "read": [1], "rescue": [1], "copy": [1, 2],
            "drop": [1], "show": [1], "begins": [1], "at": [1], "between": [1], "value": [1, 2], "kept": [1], "crosses": [1, 2], "judged": [1],
            "record": [1], "same": [1, 2]}
        for command in DEEDS + QUESTIONS:
            for place in places.get(command.split(" ")[0], []):
                for name in GOOD_NAMES:
                    self.assertIs(is_command(bent(command, place, name)), True, (command, place, name))
                for name in BAD_NAMES:
                    self.assertIs(is_command(bent(command, place, name)), False, (command, place, name))

    def test_letters(self):
        # The letter of a system is a name of its own kind: to 12 characters, and no word.
        for name, told in [("x", True), ("abcdefghijkl", True), ("abcdefghijklm", False), ("to", False), ("slope", False), ("X", False), ("q1", True), ("", False)]:
            self.assertIs(is_command(f"start f {name} 1"), told, name)

    def test_numbers(self):
        for text in GOOD_NUMBERS:
            self.assertIs(is_command(f"start f x {text}"), True, text)
            self.assertIs(is_command(f"start f x {text}..{text}"), True, text)
            self.assertIs(is_command(f"at r {text}"), not text.startswith("-"), text)
            self.assertIs(is_command(f"run r f {text} set 1"), not text.startswith("-"), text)
            self.assertIs(is_command(f"between r 0 {text}"), not text.startswith("-"), text)
            self.assertIs(is_command(f"between r {text} 0"), not text.startswith("-"), text)
            self.assertIs(is_command(f"value r g {text}"), not text.startswith("-"), text)
        for text in BAD_NUMBERS:
            for command in (f"start f x {text}", f"start f x {text}..1", f"start f x -5..{text}", f"at r {text}", f"run r f {text} set 1",
                            f"between r 0 {text}", f"between r {text} 0", f"value r g {text}"):
                self.assertIs(is_command(command), False, command)

    def test_ranges(self):
        for text, told in [("1/2..3", True), ("3..1/2", False), ("3..3", True), ("-2..-3", False), ("-3..-2", True), ("1/3..1/2", True), ("1/2..1/3", False),
                           ("0..0", True), ("1...2", False), ("1..2..3", False), ("..", False), ("..2", False), ("1.2", False), ("1 .. 2", False), ("1..", False)]:
            self.assertIs(is_command(f"start f x {text}"), told, text)

    def test_counts(self):
        for text, told in [("0", True), ("7", True), ("10", True), ("99", True), ("100", False), ("07", False), ("00", False), ("", False), ("-1", False),
                           ("1/2", False), ("x", False), ("1.", False), ("+1", False), ("1\n", False)]:
            for command in (f"cut a b {text}", f"run r f 1 box {text}", f"kept f {text}", f"crosses r g {text}"):
                self.assertIs(is_command(command), told, command)

    def test_kinds(self):
        for text, told in [("box", True), ("set", True), ("Box", False), ("", False), ("sets", False), ("both", False)]:
            self.assertIs(is_command(f"run r f 1 {text} 4"), told)

    def test_texts(self):
        for text in ["x", " ", "  x", "x  ", "a b\nc\n", "\n", "#", "7 3460 run box\n"]:
            for command in ("model m ", "guard g f ", "read r ", "rescue r "):
                self.assertIs(is_command(command + text), True, (command, text))
                self.assertIs(is_deed(command + text), True, (command, text))
        for command in ("model m", "model m ", "model", "model ", "model  x", "guard g f", "guard g f ", "guard g", "guard g  x", "read r", "read r ", "rescue r "):
            self.assertIs(is_command(command), False, command)


class TestWritten(unittest.TestCase):
    def test_intervals(self):
        for interval, told in [((0, ONE // 2), "0..1/2"), ((-ONE, ONE), "-1..1"), ((1, 1), "1/1099511627776..1/1099511627776"), ((0, 0), "0..0"),
                               ((-3 * ONE // 2, -ONE), "-3/2..-1"), ((2 ** 70, 2 ** 70), "1073741824..1073741824")]:
            self.assertEqual(interval_text(interval), told)
        random = Random(174)
        for _ in range(40):
            interval = some_interval(random, 2 ** random.randint(1, 69))
            low, dots, high = interval_text(interval).partition("..")
            self.assertEqual((Fraction(low) * ONE, dots, Fraction(high) * ONE), (interval[0], "..", interval[1]))

    def test_boxes(self):
        self.assertEqual(box_text(((0, 0), (-ONE, 0))), "0..0, -1..0")
        self.assertEqual(box_text(((0, ONE // 2),)), "0..1/2")
        box = ((0, ONE),) * 8
        self.assertIs(is_box(box), True)
        self.assertEqual(box_text(box), ", ".join(["0..1"] * 8))
