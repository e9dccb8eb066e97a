"""[163] to [166]: records of runs."""

import unittest
from random import Random

from tests.courses import BOXES as STARTS, CLOCK, KNOWN, TURNS
from tests.support import MOST, ONE, OTHERS, TEXT, check_calls, counts_wrong, refuses, with_part
from tests.test_runs import NONE_YET, RUNS, TURNED, TWICE, ZERO
from truecourse.errors import BadRecord, InvalidMany
from truecourse.exact import text_of_ratio
from truecourse.polytexts import poly_text
from truecourse.records import good_part, line_check, parse_record, record_text
from truecourse.runners import run as run_to
from truecourse.runs import is_beginning, is_run
from truecourse.sets import set_of_box
from truecourse.settings import plain_settings

CLOCKED = ["run box", "letters t", "slope 1", "start 0 0", f"step {ONE} 2", "from 0 0", f"held 0 {ONE}", f"to {ONE} {ONE}",
           f"step {ONE} 2", f"from {ONE} {ONE}", f"held {ONE} {3 * ONE}", f"to {2 * ONE} {2 * ONE}", "done 2"]
HEAD = CLOCKED[:4]


def checked(number, body):
    """By the words of the document."""
    left = number % 9973
    for character in body:
        left = (31 * left + ord(character)) % 9973
    return left


def text_of(bodies):
    return "".join(f"{len(body)} {checked(k + 1, body)} {body}\n" for k, body in enumerate(bodies))


def bodies_of(text):
    return [line.split(" ", 2)[2] for line in text.split("\n")[:-1]]


def bodies_by_the_words(run):
    _, own, start, papers = run
    _, names, polys = own

    def box(word, told):
        return " ".join([word] + [str(end) for interval in told for end in interval])

    def ratios(word, told):
        return " ".join([word] + [text_of_ratio(ratio) for ratio in told])

    def affine(told):
        return [ratios("middle", told[1])] + [ratios("row", row) for row in told[2]] + [box("within", told[3])]
    is_set = bool(papers) and papers[0][0] == "carried"
    found = ["run " + ("set" if is_set else "box"), "letters " + " ".join(names)]
    found += ["slope " + poly_text(poly, names) for poly in polys] + [box("start", start)]
    for _, begin, step, many, held, end in papers:
        found.append(f"step {step} {many}")
        if is_set:
            found += affine(begin) + [box("held", held)] + affine(end)
        else:
            found += [box("from", begin), box("held", held), box("to", end)]
    return found + [f"done {len(papers)}"]


def wrong_at(text):
    """The number that BadRecord tells, None of a record."""
    try:
        parse_record(text)
        return None
    except BadRecord as wrong:
        return wrong.position


class TestLines(unittest.TestCase):
    def test_errors(self):
        check_calls(self, line_check, [
            ("number", 1, (InvalidMany, [wrong for wrong in counts_wrong(1, 2) if wrong not in (3, 10 ** 30)])), ("body", "run", TEXT)])
        refuses(line_check, InvalidMany, {"value": 0}, 0, None)

    def test_checks(self):
        self.assertEqual(line_check(1, "run"), 3460)
        self.assertEqual([line_check(number, "") for number in (1, 9972, 9973, 9974, 3 * 9973 + 5)], [1, 9972, 0, 1, 5])
        random = Random(163)
        for _ in range(50):
            body = "".join(chr(random.randint(32, 126)) for _ in range(random.randint(0, 60)))
            number = random.randint(1, 20000)
            self.assertEqual(line_check(number, body), checked(number, body))
            self.assertTrue(0 <= line_check(number, body) <= 9972)


class TestWritten(unittest.TestCase):
    def test_errors(self):
        check_calls(self, record_text, [("run", TWICE, RUNS)])
        check_calls(self, parse_record, [("text", record_text(TWICE), (None, []))])
        check_calls(self, good_part, [("text", record_text(TWICE), (None, []))])
        for value in OTHERS + [3, (), ["a"], ("a",), TWICE]:
            refuses(parse_record, BadRecord, {"position": 0}, value)
            self.assertIsNone(good_part(value))

    def test_bodies(self):
        self.assertEqual(record_text(TWICE), text_of(CLOCKED))
        self.assertEqual(record_text(NONE_YET), text_of(HEAD + ["done 0"]))
        self.assertEqual(record_text(TWICE).split("\n")[1:3], ["9 1364 letters t", "7 8597 slope 1"])
        self.assertEqual(bodies_of(record_text(TURNED))[:9], [
            "run set", "letters x y", "slope -y", "slope x", f"start {ONE} {ONE + 9} 0 9", f"step {ONE // 8} 4",
            f"middle {text_of_ratio(TURNED[3][0][1][1][0])} {text_of_ratio(TURNED[3][0][1][1][1])}", "row 1 0", "row 0 1"])
        for run in self.some_runs():
            self.assertEqual(record_text(run), text_of(bodies_by_the_words(run)))

    def some_runs(self):
        found = [TWICE, NONE_YET, TURNED]
        for name, (own, _) in KNOWN.items():
            for kind in ("box", "set"):
                found.append(run_to(own, STARTS[name], ONE // 2, plain_settings(kind, 3))[1])
        return found

    def test_read(self):
        """[166]: of the record it is the run."""
        for run in self.some_runs():
            text = record_text(run)
            self.assertEqual(parse_record(text), run)
            self.assertEqual(good_part(text), run)
            self.assertIs(is_run(good_part(text)), True)

    def test_slopes(self):
        polys = ((((0, 0), (-1, 2)), ((2, 1), (-1, 1))), ())
        run = ("run", ("system", ("x", "y1"), polys), ((-5, MOST), (0, 0)), ())
        self.assertEqual(bodies_of(record_text(run))[1:5], ["letters x y1", "slope -1/2 - x^2*y1", "slope 0", f"start -5 {MOST} 0 0"])
        self.assertEqual(parse_record(record_text(run)), run)

    def test_long_ratios(self):
        # Ratios of more than 40 digits are written, but not read.
        own = ("system", ("x",), ((),))
        for digits, told in [(39, True), (40, True), (41, False)]:
            under = 10 ** digits - 1
            middle = ((1, under),)
            first = set_of_box(ZERO)
            target = ("set", middle, (((1, 1),),), ((-5, 5),))
            run = ("run", own, ZERO, (("carried", first, ONE, 1, ((-9, 9),), target),))
            self.assertIs(is_run(run), True)
            text = record_text(run)
            self.assertEqual(parse_record(text) if told else good_part(text), run if told else run[:3] + ((),))
            self.assertEqual(wrong_at(text), None if told else 10)


class TestRead(unittest.TestCase):
    def check(self, bodies, wrong, papers=None):
        text = text_of(bodies)
        self.assertEqual(wrong_at(text), wrong, bodies)
        if papers is not None:
            self.assertEqual(good_part(text), with_part(TWICE, 3, TWICE[3][:papers]))
        elif wrong is not None:
            self.assertIsNone(good_part(text))

    def test_good(self):
        self.check(CLOCKED, None, 2)
        self.check(HEAD + ["done 0"], None, 0)
        self.check(CLOCKED[:8] + ["done 1"], None, 1)

    def test_lines_that_lack(self):
        # The number behind the last line.
        for many in range(len(CLOCKED)):
            papers = None if many < 4 else max(0, (many - 4) // 4)
            self.check(CLOCKED[:many], many + 1, papers)
        self.assertEqual(wrong_at(""), 1)
        self.assertIsNone(good_part(""))

    def test_lines_too_many(self):
        for more in ("done 2", "", "x", "step 5 1"):
            self.check(CLOCKED + [more], 14, 2)
        text = record_text(TWICE)
        for more in ("\n", "x", "x\n", " ", "6 2071 done 2\n\n"):
            self.assertEqual(wrong_at(text + more), 14)
            self.assertEqual(good_part(text + more), TWICE)

    def test_without_line_feed(self):
        text = record_text(TWICE)
        self.assertEqual(wrong_at(text[:-1]), 13)
        self.assertEqual(good_part(text[:-1]), TWICE)
        ends = [k for k, character in enumerate(text) if character == "\n"]
        for number, end in enumerate(ends):
            self.assertEqual(wrong_at(text[:end]), number + 1)
            self.assertEqual(wrong_at(text[:end + 1]), number + 2 if number < 12 else None)

    def test_lengths_and_checks(self):
        lines = record_text(TWICE).split("\n")
        for k in range(13):
            length, check, body = lines[k].split(" ", 2)
            for line in [f"{int(length) + 1} {check} {body}", f"{int(length) - 1} {check} {body}", f"{length} {int(check) + 1} {body}",
                         f"0{length} {check} {body}", f"{length} 0{check} {body}", f"{length}  {check} {body}", f" {length} {check} {body}",
                         f"{length} {check}  {body}", f"{length} {check} {body} ", f"+{length} {check} {body}", f"{length} {int(check) + 9973} {body}",
                         f"{length} {body}", body, "", f"{length} {check}", f"-{length} {check} {body}"]:
                bent = "\n".join(lines[:k] + [line] + lines[k + 1:])
                self.assertEqual(wrong_at(bent), k + 1, line)
                papers = 2 if k == 12 else (k - 4) // 4
                self.assertEqual(good_part(bent), None if k < 4 else with_part(TWICE, 3, TWICE[3][:papers]))

    def test_doubled_left_out_exchanged(self):
        lines = record_text(TWICE).split("\n")[:-1]
        for k in range(13):
            self.assertEqual(wrong_at("\n".join(lines[:k + 1] + lines[k:] + [""])), k + 2)
            self.assertEqual(wrong_at("\n".join(lines[:k] + lines[k + 1:] + [""])), k + 1)
            for j in range(k + 1, 13):
                bent = list(lines)
                bent[k], bent[j] = bent[j], bent[k]
                self.assertEqual(wrong_at("\n".join(bent + [""])), k + 1)
        # With lengths and checks as they ought to be: by the bodies alone.
        for k in range(13):
            told = wrong_at(text_of(CLOCKED[:k] + CLOCKED[k + 1:]))
            self.assertTrue(told is not None and told >= k + 1, k)

    def test_bodies(self):
        first, mine = len(HEAD), CLOCKED
        for at, bodies in [
                (0, ["run", "run ", "run Box", "run box ", "box", "Run box", "run  box", "run box set", "run no"]),
                (1, ["letters", "letters ", "letters T", "letters t t", "letters to", "letters t ", "letters  t", "letter t", "letters t,", "letters 1",
                     "letters a b c d e f g h i", "letters tttttttttttttt"]),
                (2, ["slope", "slope ", "slope t + 1", "slope 1 + x", "slope 1 ", "slope  1", "slope 2/2", "slope 01", "slope +1", "slope 1/1", "slope t^9",
                     "slope 1*t", "slope t*t", "slope -0", "slope 1 + 0", "slope 1+t", "slope 1/0", "slope t^1", "slope " + "9" * 41, "slope"]),
                (3, ["start", "start 0", "start 0 0 0", "start 1 0", "start 00 0", "start -0 0", "start 0 0 ", "start  0 0", "start 0 1/2", "start x 0",
                     f"start 0 {MOST + 1}", f"start {-MOST - 1} 0", "start +0 0", "start 0 0 0 0", "start - 0", "start -- 0", "start 0 -", "start -01 0", "start 0- 0", "Start 0 0", "start 0 " + "9" * 41]),
                (4, ["step", f"step {ONE}", f"step {ONE} 0", f"step {ONE} 9", "step 0 2", f"step {8 * ONE + 1} 2", f"step {ONE} 2 2", f"step 0{ONE} 2",
                     f"step {ONE} 02", f"step {ONE} x", f"step -{ONE} 2", f"step {ONE} 2 ", "from 0 0", "done 1", "done", "done ", "done 00", "done 0 0", "middle 0"]),
                (5, ["from", "from 0", "from 0 0 0", "from 1 0", "held 0 0", "middle 0", "from 0 00", "from 0 -0", f"from 0 {MOST + 1}"]),
                (6, ["held", "held 0", f"held {ONE} 0", f"to 0 {ONE}", f"from 0 {ONE}", f"held 0 {ONE} "]),
                (7, ["to", f"to {ONE}", f"to {ONE} {ONE - 1}", f"to {ONE} x", f"held {ONE} {ONE}", f"to {ONE + 1} {ONE + 1}", f"to {ONE - 1} {ONE - 1}"]),
                (12, ["done 1", "done 3", "done", "done 02", "done 2 ", "done -2", "done 2 2", "Done 2"])]:
            for body in bodies:
                papers = None if at < first else (at - first) // 4
                self.check(mine[:at] + [body] + mine[at + 1:], at + 1, papers)

    def test_papers_not_taken(self):
        """The last line of each paper is good only if it is taken and chained."""
        for at, body, wrong in [(4, f"step {ONE} 1", 8 + 4), (4, f"step {2 * ONE} 2", 8), (5, "from -5 0", 8), (5, "from 1 1", 8), (6, f"held 0 {ONE - 1}", 8),
                                (7, f"to 0 {ONE - 1}", 8), (7, f"to {ONE} {ONE + 1}", 12), (9, f"from 0 {ONE}", 12), (9, f"from {ONE + 1} {ONE + 1}", 12),
                                (10, f"held {ONE} {2 * ONE - 1}", 12), (11, f"to {2 * ONE} {3 * ONE}", None), (10, f"held {ONE} {2 * ONE}", None)]:
            bodies = CLOCKED[:at] + [body] + CLOCKED[at + 1:]
            told = wrong_at(text_of(bodies))
            if at == 4 and body.endswith(" 1"):
                # Of the first order it is taken as well.
                self.assertIsNone(told)
            else:
                self.assertEqual(told, wrong, body)
        # The other order of the lines of a paper.
        bodies = CLOCKED[:5] + [CLOCKED[6], CLOCKED[5]] + CLOCKED[7:]
        self.assertEqual(wrong_at(text_of(bodies)), 6)

    def test_kinds(self):
        for bodies, wrong in [
                (["run set"] + HEAD[1:] + ["done 0"], 5), (["run set"] + HEAD[1:] + CLOCKED[4:], 6), (["run box"] + bodies_of(record_text(TURNED))[1:], 7)]:
            self.assertEqual(wrong_at(text_of(bodies)), wrong)
        self.assertEqual(good_part(text_of(["run set"] + HEAD[1:] + ["done 0"])), NONE_YET)
        lines = bodies_of(record_text(TURNED))
        # The first paper's set must be that of the start, each further one that ahead.
        for at, wrongs in [(6, [15]), (9, [15]), (11, [15, 25]), (14, [15, 25]), (16, [25]), (19, [25])]:
            words = lines[at].split(" ")
            bent = " ".join(words[:1] + [self.moved(words[1])] + words[2:])
            self.assertIn(wrong_at(text_of(lines[:at] + [bent] + lines[at + 1:])), wrongs, (at, bent))

    def moved(self, word):
        number, slash, under = word.partition("/")
        return str(int(number) - (2 if slash else 1)) + slash + under

    def test_sets(self):
        lines = bodies_of(record_text(TURNED))
        for at, bodies in [
                (6, ["middle", "middle 1", "middle 1 2 3", "middle 2/4 0", "middle 1/1 0", "middle 0/5 0", "middle 1/0 0", "middle 01 0", "middle -0 0",
                     "middle 1/-2 0", "middle 1/02 0", "middle x 0", "middle x/2 0", "middle /2 0", "middle 1/ 0", "middle 1/x 0", "middle - 0", "middle 1/- 0", "middle -/2 0", "row 1 0", "middle 1 0 ", "middle " + "9" * 41 + " 0", "middle 1/" + "9" * 41 + " 0"]),
                (7, ["row 1", "row 1 0 0", "row 0.5 0", "middle 1 0", "within 0 0 0 0", "row 1/1 0"]), (9, ["within 0 0", "within 1 0 0 0", "held 0 0 0 0", "row 0 1"]),
                (10, ["held 0 0", "within 0 0 0 0", "held 0 0 1 0"]), (11, ["row 1 0", "held 0 0 0 0"])]:
            for body in bodies:
                self.assertEqual(wrong_at(text_of(lines[:at] + [body] + lines[at + 1:])), at + 1, body)
                self.assertEqual(good_part(text_of(lines[:at] + [body] + lines[at + 1:])), with_part(TURNED, 3, ()))
        # A matrix without an inverse: each line stands by itself, but the paper isn't taken.
        for at in (7, 12):
            bent = lines[:at] + ["row 0 0"] + lines[at + 1:]
            self.assertEqual(wrong_at(text_of(bent)), 15)
        # 40 digits may stand.
        for sign in ("", "-"):
            self.assertEqual(wrong_at(text_of(lines[:6] + ["middle " + sign + "9" * 40 + " " + sign + "1/" + "9" * 40] + lines[7:])), 15)
            self.assertEqual(wrong_at(text_of(lines[:6] + ["middle " + sign + "9" * 41 + " 0"] + lines[7:])), 7)

    def test_sixty(self):
        own = ("system", ("x",), ((),))
        paper = ("step", ZERO, 5, 1, ZERO, ZERO)
        run = ("run", own, ZERO, (paper,) * 60)
        text = record_text(run)
        self.assertEqual(parse_record(text), run)
        bodies = bodies_of(text)
        more = bodies[:-1] + bodies[4:8] + ["done 61"]
        self.assertEqual(wrong_at(text_of(more)), 4 + 60 * 4 + 1)
        self.assertEqual(good_part(text_of(more)), run)

    def test_cut_and_bent(self):
        """[166]: of what is cut or bent behind the line `start` a beginning of the run, a run by itself."""
        random = Random(166)
        for run in (TWICE, TURNED, run_to(TURNS, STARTS["turns"], ONE, plain_settings("box", 3))[1]):
            text = record_text(run)
            begin = text.index("start")
            end = text.index("\n", begin) + 1
            for at in [0, 5, begin, end - 1]:
                self.assertIsNone(good_part(text[:at]))
            for at in [end, len(text) - 1, len(text)] + [random.randint(end, len(text)) for _ in range(25)]:
                told = good_part(text[:at])
                self.assertIs(is_beginning(told, run), True)
                self.assertIs(is_run(told), True)
            for _ in range(40):
                at = random.randint(end, len(text) - 1)
                bent = text[:at] + random.choice(["", "0", "1", " ", "\n", "-", "x"]) + text[at + random.choice([0, 1]):]
                told = good_part(bent)
                self.assertIs(is_beginning(told, run), True)
                self.assertIs(is_run(told), True)
                if bent != text:
                    self.assertIsNotNone(wrong_at(bent))
            # Bent ahead of it there is none, or what is read is a run by itself.
            for _ in range(20):
                at = random.randint(0, end - 2)
                bent = text[:at] + random.choice(["0", "1", "x"]) + text[at + 1:]
                if bent != text:
                    self.assertIsNone(good_part(bent))

    def test_many_letters(self):
        names = tuple("abcdefgh")
        run = ("run", ("system", names, ((),) * 8), ((0, 1),) * 8, ())
        self.assertEqual(parse_record(record_text(run)), run)
        self.assertEqual(len(bodies_of(record_text(run))), 12)
        self.assertEqual(good_part(record_text(("run", CLOCK, ZERO, ()))), NONE_YET)
