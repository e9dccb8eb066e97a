"""[1], [4], [67]: from texts of models to boxes at times, by models whose courses are known."""

import unittest
from decimal import localcontext
from fractions import Fraction
from random import Random

from tests.courses import decimal, lies_in, starts
from tests.decimals import cosine, exp, log, sine
from tests.support import ONE
from truecourse.crossings import crossings, sign_at, stretches, undecided
from truecourse.desk import Desk
from truecourse.flattening import flattened
from truecourse.judge import judged
from truecourse.parser import parse_model
from truecourse.printer import model_text
from truecourse.runners import run
from truecourse.runs import box_at, box_between, end_time, is_run
from truecourse.settings import plain_settings


def known(function):
    return lambda number: Fraction(function(decimal(Fraction(number))))


def _root(number):
    with localcontext() as context:
        context.prec = 90
        return number.sqrt()


exp, log, sine, cosine, root = (known(own) for own in (exp, log, sine, cosine, _root))

# Of each model the text, and what its own letters and givens are at a time, by their starts.
MODELS = {
    "dies": ("given k = 1/10 to 1/5\nletter x = 1 to 3/2\nslope x = -k * x", lambda x, k, t: (x * exp(-k * t), k)),
    "over": ("letter x = 1 to 1.1\nslope x = 1 / x", lambda x, t: (root(x * x + 2 * t),)),
    "exp": ("letter x = 0 to 0.1\nslope x = exp(-x)", lambda x, t: (log(t + exp(x)),)),
    "root": ("letter x = 1 to 1.1\nslope x = root(x)", lambda x, t: ((root(x) + t / 2) ** 2,)),
    "sin": ("time t\nletter x = -1 to 1\nslope x = sin(2 * t)", lambda x, s, t: (x + (1 - cosine(2 * t)) / 2, t)),
    "cos": ("time t\nletter x = -1 to 1\nslope x = t * cos(t) + sin(t)", lambda x, s, t: (x + t * sine(t), t)),
    "log": ("time t\nletter x = 3\nslope x = log(1 + t) + t / (1 + t)", lambda x, s, t: (x + t * log(1 + t), t)),
    "thrown": ("letter h = 1\nslope h = v # speed\nletter v = 0\ngiven g = 9 to 10\nslope v = -g",
               lambda h, v, g, t: (h + v * t - g * t * t / 2, v - g * t, g)),
}


class TestWholeWay(unittest.TestCase):
    def test_courses(self):
        random = Random(4)
        for name, (text, course) in MODELS.items():
            model = parse_model(text)
            self.assertEqual(parse_model(model_text(model)), model)
            _, system, box, _ = flattened(model)
            own = len(model[2]) + len(model[3]) + (model[1] is not None)
            for kind in ("box", "set"):
                told = run(system, box, ONE, plain_settings(kind, 6))
                self.assertEqual(told[0], "whole", (name, kind))
                self.assertIs(is_run(told[1]), True)
                self.assertEqual(end_time(told[1]), ONE)
                for point in starts(box[:own], random, 3):
                    for time in (0, ONE, random.randint(1, ONE), random.randint(1, ONE)):
                        row = course(*point, Fraction(time, ONE))
                        self.assertTrue(lies_in(row, box_at(told[1], time)[:own]), (name, kind, time))
                        self.assertTrue(lies_in(row, box_between(told[1], time // 2, time)[:own]), (name, kind, time))

    def test_overview(self):
        """[1]: it falls below one half between two told moments; all that is told is judged anew."""
        desk = Desk()
        desk.do_all("model m " + MODELS["dies"][0], "flat f m", "run r f 12 set 5", "guard g f x - 1/2")
        path, guard = desk["r"], desk["g"]
        told = stretches(path, guard, 6)
        self.assertEqual(judged(("stretches", path, guard, told)), ("ok", "stretches"))
        (early, late), = undecided(path, guard, told)
        self.assertEqual([sign_at(path, guard, told, time) for time in (0, ONE, early)], ["above"] * 3)
        random = Random(1)
        for x, k in starts(path[2], random, 4):
            self.assertTrue(x * exp(-k * Fraction(early, ONE)) > Fraction(1, 2))
        self.assertEqual(desk.do("judged r"), "ok")
        # With the start and the rate told more closely it is just once, within one step.
        desk.do_all("start f x 6/5..61/50", "start f k 1/5", "run s f 5 set 5")
        told = stretches(desk["s"], guard, 6)
        (early, late, way), = crossings(desk["s"], guard, told)
        self.assertEqual((way, undecided(desk["s"], guard, told)), ("down", []))
        for x, k in starts(desk["s"][2], random, 4):
            self.assertTrue(x * exp(-k * Fraction(early, ONE)) > Fraction(1, 2) > x * exp(-k * Fraction(late, ONE)))

    def test_boxes_are_not_much_wider_than_the_courses(self):
        for name, most in [("dies", 3 * ONE // 5), ("over", ONE // 4), ("exp", ONE // 5), ("sin", 21 * ONE // 10), ("log", ONE // 1000)]:
            _, system, box, _ = flattened(parse_model(MODELS[name][0]))
            told = run(system, box, ONE, plain_settings("set", 8))
            position = system[1].index("x")
            low, high = box_at(told[1], ONE)[position]
            self.assertLess(high - low, most, name)
