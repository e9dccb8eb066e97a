"""[5], [11]: RATIOS."""

import unittest
from random import Random

from tests.support import OTHERS, RATIO, RATIOS, TEXT, check_calls, refuses
from truecourse.errors import BadText, InvalidInteger, NoQuotient
from truecourse.ratios import is_ratio, parse_ratio, ratio, ratio_text

BIG = 10 ** 40 - 1
INTEGER = (InvalidInteger, OTHERS + ["1", (1,), [1], 10 ** 40, -10 ** 40])


class TestRatios(unittest.TestCase):
    def test_is_ratio(self):
        for value in [(0, 1), (1, 1), (-3, 2), (10 ** 50, 3), (2, 10 ** 60 + 1)]:
            self.assertIs(is_ratio(value), True)
        for value in RATIOS + [(3, 3), (-4, 6), (0, -1)]:
            self.assertIs(is_ratio(value), False)

    def test_ratio(self):
        self.assertEqual(ratio(6, 4), (3, 2))
        self.assertEqual(ratio(-6, -4), (3, 2))
        self.assertEqual(ratio(6, -4), (-3, 2))
        self.assertEqual(ratio(0, -7), (0, 1))
        self.assertEqual(ratio(BIG, -BIG), (-1, 1))
        self.assertEqual(ratio(-BIG, 1), (-BIG, 1))

    def test_ratio_errors(self):
        check_calls(self, ratio, [("number", 3, INTEGER), ("under", 5, INTEGER)])
        refuses(ratio, NoQuotient, {}, 3, 0)
        refuses(ratio, InvalidInteger, {"value": None}, None, 0)
        refuses(ratio, InvalidInteger, {"value": False}, 0, False)

    def test_ratio_text(self):
        texts = {(0, 1): "0", (-3, 2): "-3/2", (4, 1): "4", (-4, 1): "-4", (1, 30): "1/30"}
        for value, text in texts.items():
            self.assertEqual(ratio_text(value), text)
        check_calls(self, ratio_text, [("ratio", (1, 2), RATIO)])

    def test_long_text(self):
        # Python itself refuses to write so many digits at once.
        self.assertEqual(ratio_text((10 ** 5000 + 7, 1)), "1" + "0" * 4999 + "7")
        self.assertEqual(ratio_text((-1, 10 ** 4400)), "-1/1" + "0" * 4400)

    def test_parse_ratio(self):
        told = {
            "0": (0, 1), "-0": (0, 1), "007": (7, 1), "-0.250": (-1, 4), "006/4": (3, 2),
            "1/0" + "0" * 38 + "1": (1, 1), "0/5": (0, 1), "-3/06": (-1, 2), "0.0": (0, 1),
            "1.5": (3, 2), "9" * 40: (BIG, 1), "1." + "0" * 39 + "1": (10 ** 40 + 1, 10 ** 40),
            "-0.5": (-1, 2), "12.50": (25, 2)}
        for text, value in told.items():
            self.assertEqual(parse_ratio(text), value, text)

    def test_parse_faults(self):
        faults = {
            "": 0, "-": 1, "--1": 1, "+1": 0, " 1": 0, "1 ": 1, "x": 0, "1x": 1, "1/": 2, "1.": 2,
            "1/0": 3, "1/00": 4, "1/-2": 2, "1.-2": 2, "1/2/3": 3, "1.5.5": 3, "1.5/2": 3,
            "1/2.5": 3, "/2": 0, ".5": 0, "-.5": 1, "1" * 41: 40, "-" + "1" * 41: 41,
            "1/" + "1" * 41: 42, "1." + "1" * 41: 42, "1/" + "0" * 39: 41, "1/" + "0" * 40: 41,
            "1/" + "0" * 41: 41, "1/" + "0" * 40 + "1": 41, "1/0x": 3, "1\n": 1, "1e5": 1,
            "0" * 41: 40, "1/" + "0" * 39 + "x": 41}
        for text, position in faults.items():
            with self.subTest(text=text):
                refuses(parse_ratio, BadText, {"position": position}, text)
        check_calls(self, parse_ratio, [("text", "3/4", TEXT)])

    def test_text_is_read_back(self):
        random = Random(1)
        for _ in range(200):
            value = ratio(random.randint(-10 ** 30, 10 ** 30), random.randint(1, 10 ** 30))
            self.assertEqual(parse_ratio(ratio_text(value)), value)
