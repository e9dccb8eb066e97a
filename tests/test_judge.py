"""[161], [162]: claims, and how they are judged."""

import unittest
from random import Random

from tests.courses import BOXES as STARTS, CLOCK, FALLS, KNOWN, TURNS, system
from tests.support import (
    BOXES, MATRICES, ONE, OTHERS, POINTS, POLYS, SETS, SYSTEMS, check_calls, counts_wrong, with_part)
from tests.test_carried import PAPER as CARRIED_PAPER, PAPERS as CARRIED_PAPERS, PLAIN
from tests.test_crossings import FORMS as STRETCH_FORMS, LONG, OVER, TOLD as STRETCHES
from tests.test_machines import MACHINES, TURNING
from tests.test_runs import NONE_YET, RUNS, TURNED, TWICE, ZERO
from tests.test_safe import FAR, FIVE, LEAF, PAIR
from tests.test_signs import WORDS
from tests.test_switching import FORMS as SWITCHED_FORMS, POINT, SWITCH, TOLD as SWITCHED
from truecourse.carried import is_carried
from truecourse.choosing import carried
from truecourse.crossings import is_stretches, stretches
from truecourse.judge import is_claim_word, judged
from truecourse.kept import is_kept
from truecourse.polytexts import parse_poly
from truecourse.runners import run as run_to
from truecourse.runs import is_run
from truecourse.safe import is_safe
from truecourse.sets import set_of_box
from truecourse.settings import plain_settings
from truecourse.signs import is_sign_paper
from truecourse.steps import is_step, step_paper
from truecourse.switching import is_switched

CLAIM_WORDS = ["step", "carried", "run", "sign", "kept", "safe", "stretches", "switched"]
BAD = ("bad", ())
UNIT = ((0, ONE),)
CIRCLE = (((0, 2), (1, 1)), ((2, 0), (1, 1)))
ABOVE = (((0,), (1, 1)), ((1,), (-1, 1)), ((2,), (1, 1)))
TICK = ("step", ZERO, ONE, 2, ((0, ONE),), ((ONE, ONE),))
CLAIMS = [
    ("step", CLOCK, TICK), ("carried", PLAIN, CARRIED_PAPER), TWICE, ("sign", ABOVE, UNIT, "above", LEAF), ("kept", TURNS, CIRCLE),
    ("safe", FALLS, FIVE, (PAIR,)), ("stretches", LONG, OVER, STRETCHES), ("switched", TURNING, 0, POINT, SWITCHED)]


class TestWords(unittest.TestCase):
    def test_words(self):
        check_calls(self, is_claim_word, [("value", "run", (None, []))])
        for word in CLAIM_WORDS:
            self.assertIs(is_claim_word(word), True)
        for value in OTHERS + [3, "", "Run", "runs", "set", "narrowing", "table", ("run",), ["step"], b"run", "step "]:
            self.assertIs(is_claim_word(value), False, value)


class TestJudged(unittest.TestCase):
    def test_calls(self):
        check_calls(self, judged, [("value", CLAIMS[0], (None, []))])

    def test_ok(self):
        for claim, word in zip(CLAIMS, CLAIM_WORDS):
            self.assertEqual(judged(claim), ("ok", word))
        for claim in [NONE_YET, TURNED, with_part(TURNED, 3, TURNED[3][:1])]:
            self.assertEqual(judged(claim), ("ok", "run"))

    def test_no_claims(self):
        for value in OTHERS + [3, "run", (), ("run",), ("step",), "step", ["step", CLOCK, TICK], TICK, CARRIED_PAPER, STRETCHES, SWITCHED,
                               ("Step", CLOCK, TICK), (None, CLOCK, TICK), (("step",), CLOCK, TICK), ("narrowing", CLOCK, TICK)]:
            self.assertEqual(judged(value), BAD, value)
        for claim in CLAIMS:
            self.assertEqual(judged(claim[:-1]), BAD)
            self.assertEqual(judged(claim + (None,)), BAD)
            self.assertEqual(judged(list(claim)), BAD)
            for word in CLAIM_WORDS:
                if word != claim[0]:
                    # Of a safe box's claim a run with a thing that is no paper comes.
                    is_run_made = (word, claim[0]) == ("run", "safe")
                    self.assertEqual(judged((word,) + claim[1:]), ("bad", (0,)) if is_run_made else BAD, (word, claim))

    def test_wrong_parts(self):
        """Each part of another kind, True and False among them: no claim."""
        wrongs = [
            (0, [(1, SYSTEMS + [TURNS, FALLS]), (2, OTHERS + [list(TICK), TICK[:5], with_part(TICK, 3, True), with_part(TICK, 4, ((0, ONE - 1),)), CARRIED_PAPER])]),
            (1, [(1, SYSTEMS + [CLOCK]), (2, CARRIED_PAPERS[1])]),
            (3, [(1, POLYS + [CIRCLE, ()]), (2, BOXES + [UNIT * 2, ((-ONE, 2 * ONE),) * 2]), (3, WORDS[1] + ["below"]),
                 (4, OTHERS + [(), ["leaf"], ("leaf", 1), ("cut", 1, LEAF, LEAF), ("cut", False, LEAF, LEAF), "leaf"])]),
            (4, [(1, SYSTEMS + [CLOCK]), (2, POLYS + [CIRCLE[:1], (((1,), (1, 1)),)])]),
            (5, [(1, SYSTEMS + [TURNS]), (2, BOXES + [((1, 5),), FIVE * 2]), (3, OTHERS + [PAIR, [PAIR], (PAIR, PAIR), ((LEAF, None),)])]),
            (6, [(1, RUNS[1] + [TURNED]), (2, POLYS + [CIRCLE]), (3, STRETCH_FORMS)]),
            (7, [(1, MACHINES[1]), (2, counts_wrong(0, 1) + [1]), (3, BOXES + [((ONE, ONE + 1),), POINT * 2]), (4, SWITCHED_FORMS)])]
        for k, parts in wrongs:
            for place, values in parts:
                for value in values:
                    self.assertEqual(judged(with_part(CLAIMS[k], place, value)), BAD, (CLAIMS[k][0], place, value))

    def test_parts_that_do_not_go_together(self):
        # Without a sign there is no word for it, be it None; each box is of its system.
        line = (((1,), (1, 1)),)
        for word in (None, "above", "below", "perhaps"):
            self.assertEqual(judged(("sign", line, ((-5, 5),), word, LEAF)), BAD)
            self.assertEqual(judged(("sign", (), ((-5, 5),), word, LEAF)), BAD)
        self.assertEqual(judged(("safe", FALLS, FIVE * 2, (PAIR, PAIR))), BAD)
        self.assertEqual(judged(("safe", TURNS, ((0, 0),), (PAIR,))), BAD)
        twice = ("switched", TURNING, 0, POINT * 2, [], ("whole",))
        self.assertEqual(judged(("switched", TURNING, 0, POINT * 2, twice)), BAD)
        self.assertEqual(judged(("switched", TURNING, 0, POINT, with_part(SWITCHED, 4, []))), ("ok", "switched"))
        self.assertEqual(judged(("switched", TURNING, 2, POINT, with_part(with_part(SWITCHED, 4, []), 2, 2))), BAD)

    def test_runs_by_form(self):
        for value in RUNS[1]:
            told = judged(value)
            self.assertEqual(told[0], "bad", value)
            is_made = (
                isinstance(value, tuple) and len(value) == 4 and value[0] == "run" and isinstance(value[3], tuple)
                and value[1] in (CLOCK, FALLS, TURNS) and isinstance(value[2], tuple) and len(value[2]) == len(value[1][1])
                and all(isinstance(part, tuple) for part in value[2]))
            self.assertEqual(len(told[1]), int(is_made), value)

    def test_paths(self):
        first, second = TWICE[3]
        carried_first = TURNED[3][0]
        late = ("step", ((ONE, ONE),), ONE, 1, ((ONE, 2 * ONE),), ((ONE, 2 * ONE),))
        for papers, at in [
                ((first, second), None), ((first, late), None), ((first, first), 1), ((second, first), 0), ((second,), 0), ((first, None), 1), ((None, first), 0),
                ((first, second, True), 2), ((first, list(second)), 1), ((first, with_part(second, 4, ((ONE, ONE),))), 1),
                ((with_part(first, 4, ZERO), second), 0), ((first, carried_first), 1), ((first, second, second), 2), ((first, second, late), 2),
                ((False,), 0), (("x", first), 0), ((first, with_part(second, 0, "carried")), 1)]:
            claim = with_part(TWICE, 3, papers)
            self.assertEqual(judged(claim), ("ok", "run") if at is None else ("bad", (at,)), at)
            self.assertIs(is_run(claim), at is None)
        papers = TURNED[3]
        step = step_paper(TURNS, ((-2 * ONE, 2 * ONE),) * 2, ONE // 64, 2, 20)
        for own, at in [
                (papers, None), (papers[1:], 0), (papers[::-1], 0), (papers[:1] + papers[2:], 1), (papers[:2] + papers[:1], 2), (papers + papers[:1], 3),
                (papers[:2] + (step,), 2), ((step,) + papers[1:], 1), (papers[:1] + (None,), 1), ((with_part(papers[0], 2, ONE),) + papers[1:], 0)]:
            self.assertEqual(judged(with_part(TURNED, 3, own)), ("ok", "run") if at is None else ("bad", (at,)), at)
        # The start must lie within the first box, or be the first set's.
        self.assertEqual(judged(with_part(TWICE, 2, ((0, 1),))), ("bad", (0,)))
        self.assertEqual(judged(with_part(TURNED, 2, ((ONE, ONE + 8), (0, 9)))), ("bad", (0,)))

    def test_sixty(self):
        still = ("system", ("x",), ((),))
        paper = ("step", ZERO, 5, 1, ZERO, ZERO)
        self.assertEqual(judged(("run", still, ZERO, (paper,) * 60)), ("ok", "run"))
        self.assertEqual(judged(("run", still, ZERO, (paper,) * 61)), BAD)
        self.assertEqual(judged(("run", still, ZERO, (paper,) * 59 + (None,))), ("bad", (59,)))
        self.assertEqual(judged(("run", still, ZERO, [paper])), BAD)

    def test_limits(self):
        """What would need more than 2 ** 70 grains, or 400 corner numbers, isn't taken."""
        square = (((2,), (1, 1)),)
        self.assertEqual(judged(("sign", square, ((ONE, 2 ** 50),), "above", LEAF)), ("ok", "sign"))
        self.assertEqual(judged(("sign", square, ((ONE, 2 ** 60),), "above", LEAF)), BAD)
        burst = system("x", [((2,), (-1, 1))])
        self.assertEqual(judged(("safe", burst, FAR, (PAIR,))), BAD)
        self.assertEqual(judged(("step", burst, ("step", FAR, 1, 1, FAR, FAR))), BAD)
        names = ["a", "b", "c", "d"]
        for text, told in [("b^4 + a^4*c^3 + d^3", "ok"), ("b^8 + c^8 + a^4*c", "bad")]:
            poly = parse_poly("101/100 - b + 1/4*b^2 + " + text, names)
            box = ((0, ONE), (0, 2 * ONE), (0, ONE), (0, ONE))
            self.assertEqual(judged(("sign", poly, box, "above", LEAF))[0], told)

    def test_kept_of_any_degree(self):
        high = system("xy", [((7, 1), (1, 1))], [((6, 2), (-1, 1))])
        self.assertEqual(judged(("kept", high, (((4, 4), (1, 1)),))), ("ok", "kept"))
        self.assertEqual(judged(("kept", high, (((4, 3), (1, 1)),))), BAD)
        self.assertEqual(judged(("kept", CLOCK, ())), ("ok", "kept"))

    def test_one_thing_otherwise(self):
        """Papers with one thing otherwise are judged as the formulas tell."""
        random = Random(162)
        told = []
        for name, (own, _) in KNOWN.items():
            box = STARTS[name]
            step = step_paper(own, box, ONE // 16, 3, 20)
            led = carried(own, set_of_box(box), ONE // 16, 3, 20)
            run = run_to(own, box, ONE // 2, plain_settings("box", 3))[1]
            for _ in range(8):
                for word, paper, judge in (("step", step, is_step), ("carried", led, is_carried)):
                    bent = self.bent(random, paper)
                    told.append(judge(own, bent))
                    self.assertEqual(judged((word, own, bent)), ("ok", word) if told[-1] else BAD)
                k = random.randrange(len(run[3]))
                papers = run[3][:k] + (self.bent(random, run[3][k]),) + run[3][k + 1:]
                bent = with_part(run, 3, papers)
                verdict = judged(bent)
                self.assertEqual(verdict == ("ok", "run"), is_run(bent))
                if verdict[0] == "bad":
                    # The bent one, or, by its end, the next one.
                    self.assertIn(verdict[1], [(k,), (k + 1,)])
        self.assertTrue(any(told) and not all(told))

    def bent(self, random, value):
        """The value with one INTEGER in it made a little otherwise."""
        if isinstance(value, int):
            return value + random.choice([-1, 1, 3, -ONE // 99, ONE // 99])
        if isinstance(value, str) or value == ():
            return value
        place = random.randrange(1 if isinstance(value[0], str) else 0, len(value))
        return with_part(value, place, self.bent(random, value[place]))

    def test_the_same_as_the_judges(self):
        random = Random(163)
        run = run_to(TURNS, STARTS["turns"], ONE, plain_settings("set", 4))[1]
        guard = parse_poly("y - 1/2", ["x", "y"])
        for value in [stretches(run, guard, 3), [], [("perhaps", 0, ONE)], stretches(run, guard, 0)]:
            for _ in range(4):
                bent = [tuple(self.bent(random, list_part)) for list_part in value] if random.random() < 1 / 2 else value
                self.assertEqual(judged(("stretches", run, guard, bent)) == ("ok", "stretches"), is_stretches(run, guard, bent))
        for _ in range(20):
            box = tuple(sorted(random.randint(-5, 5) for _ in range(2))),
            self.assertEqual(judged(("safe", FALLS, box, (PAIR,))) == ("ok", "safe"), is_safe(FALLS, box, (PAIR,)))
            self.assertEqual(judged(("sign", ABOVE, box, "above", LEAF)) == ("ok", "sign"), is_sign_paper(ABOVE, box, "above", LEAF))
            self.assertEqual(judged(("kept", TURNS, CIRCLE[:box[0][1] % 3])) == ("ok", "kept"), is_kept(TURNS, CIRCLE[:box[0][1] % 3]))
            switch = with_part(SWITCH, 4, ((-ONE - random.randint(-1, 1), 3 * ONE),))
            value = with_part(SWITCHED, 4, [switch])
            self.assertEqual(judged(("switched", TURNING, 0, POINT, value)) == ("ok", "switched"), is_switched(TURNING, 0, POINT, value))

    def test_wrong_sets(self):
        for source in SETS[:20]:
            self.assertEqual(judged(("carried", PLAIN, with_part(CARRIED_PAPER, 1, source))), BAD)
        for middle in POINTS[:12]:
            target = with_part(CARRIED_PAPER[5], 1, middle)
            self.assertEqual(judged(("carried", PLAIN, with_part(CARRIED_PAPER, 5, target))), BAD)
        for matrix in MATRICES[:12]:
            target = with_part(CARRIED_PAPER[5], 2, matrix)
            self.assertEqual(judged(("carried", PLAIN, with_part(CARRIED_PAPER, 5, target))), BAD)
