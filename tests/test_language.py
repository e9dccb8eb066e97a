"""The package keeps to the Python subset, as far as it can be seen from outside."""

import unittest

from tests.language import all_faults


class TestLanguage(unittest.TestCase):
    def test_no_faults(self):
        self.assertEqual(all_faults(), [])
