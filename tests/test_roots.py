"""[51], [54], [55]: the root and one over a number."""

import unittest
from random import Random

from tests.support import INTERVAL, MOST, ONE, check_calls, refuses, too_many
from truecourse.errors import NotThere
from truecourse.intervals import over
from truecourse.roots import over_of, root_of


class TestRoots(unittest.TestCase):
    def test_errors(self):
        for function in (root_of, over_of):
            check_calls(self, function, [("interval", (ONE, 2 * ONE), INTERVAL)])
        for interval in [(-1, 0), (-1, 5), (-MOST, MOST), (-2, -1)]:
            refuses(root_of, NotThere, {}, interval)
        for interval in [(0, 0), (-1, 0), (0, 1), (-MOST, MOST)]:
            refuses(over_of, NotThere, {}, interval)

    def test_root(self):
        self.assertEqual(root_of((2 * ONE, 2 * ONE)), (1554944255987, 1554944255988))
        self.assertEqual(root_of((0, 0)), (0, 0))
        self.assertEqual(root_of((1, 1)), (2 ** 20, 2 ** 20))
        self.assertEqual(root_of((2, 2)), (1482910, 1482911))
        self.assertEqual(root_of((0, MOST)), (0, 2 ** 55))
        self.assertEqual(root_of((ONE // 4, 9 * ONE)), (ONE // 2, 3 * ONE))
        random = Random(25)
        for _ in range(200):
            low, high = sorted(random.randint(0, 2 ** random.randint(1, 70)) for _ in range(2))
            least, greatest = root_of((low, high))
            self.assertTrue(least ** 2 <= low * ONE < (least + 1) ** 2)
            self.assertTrue((greatest - 1) ** 2 < high * ONE <= greatest ** 2 or high == greatest == 0)

    def test_over(self):
        self.assertEqual(over_of((3 * ONE, 3 * ONE)), (ONE // 3, ONE // 3 + 1))
        self.assertEqual(over_of((-3 * ONE, -ONE)), (-ONE, -(ONE // 3)))
        self.assertEqual(over_of((2 ** 10, MOST)), (1024, MOST))
        self.assertEqual(over_of((-MOST, -2 ** 10)), (-MOST, -1024))
        too_many(over_of, "grains", MOST, (2 ** 10 - 1, ONE))
        too_many(over_of, "grains", MOST, (1, 1))
        too_many(over_of, "grains", MOST, (-ONE, 1 - 2 ** 10))
        random = Random(26)
        for _ in range(100):
            low, high = sorted(random.randint(2 ** 12, 2 ** random.randint(13, 70)) for _ in range(2))
            self.assertEqual(over_of((low, high)), over((ONE, ONE), (low, high)))
            self.assertEqual(over_of((-high, -low)), over((ONE, ONE), (-high, -low)))
