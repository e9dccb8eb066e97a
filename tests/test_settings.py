"""[101]: SETTINGS."""

import unittest

from tests.support import GOOD_SETTINGS, ONE, ORDER, OTHERS, SETTINGS, check_calls, refuses, with_part
from truecourse.errors import InvalidMany, InvalidSettings
from truecourse.settings import is_settings, plain_settings


class TestSettings(unittest.TestCase):
    def test_good(self):
        self.assertIs(is_settings(GOOD_SETTINGS), True)
        for place, part in [(1, "set"), (2, 1), (2, 8), (3, 8 * ONE), (4, ONE), (5, 1), (6, 1), (6, 2 ** 60), (7, 0), (7, 40)]:
            self.assertIs(is_settings(with_part(GOOD_SETTINGS, place, part)), True)
        self.assertIs(is_settings(("settings", "set", 8, 1, 1, 1, 1, 0)), True)

    def test_bad(self):
        for value in SETTINGS:
            self.assertIs(is_settings(value), False, value)
        self.assertIs(is_settings(("settings", "box", 2, ONE, 2 * ONE, 60, ONE, 4)), False)

    def test_plain_settings(self):
        kinds = (InvalidSettings, OTHERS + [3, "", "Box", "sets", ("box",), ["set"]])
        check_calls(self, plain_settings, [("kind", "box", kinds), ("many", 3, ORDER)])
        for kind in ("box", "set"):
            for many in range(1, 9):
                told = plain_settings(kind, many)
                self.assertEqual(told, ("settings", kind, many, ONE // 4, ONE // 65536, 60, 1024 * ONE, 20))
                self.assertIs(is_settings(told), True)
        refuses(plain_settings, InvalidSettings, {"value": None}, None, None)
        refuses(plain_settings, InvalidMany, {"value": True}, "set", True)
