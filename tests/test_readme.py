"""What README.md shows can be done."""

import os
import re
import unittest

from tests.test_examples import HERE
from truecourse.runs import is_run


class TestReadme(unittest.TestCase):
    def test_programs(self):
        with open(os.path.join(os.path.dirname(HERE), "README.md"), encoding="utf-8") as file:
            programs = re.findall(r"```python\n(.*?)```", file.read(), re.DOTALL)
        names = {}
        for program in programs:
            exec(program, names)
        self.assertEqual(names["told"][0], "whole")
        self.assertIs(is_run(names["runner"].told()), True)
        self.assertEqual(names["word"], "above")
        self.assertEqual([way for _, _, way in names["crossings"](names["path"], names["guard"], names["parts"])], ["down"])
        self.assertEqual(names["judged"](("stretches", names["path"], names["guard"], names["parts"])), ("ok", "stretches"))
        self.assertEqual(names["judged"](("safe", names["system"], names["around"], names["shown"])), ("ok", "safe"))
        self.assertEqual(names["again"].names(), names["desk"].names())
        self.assertEqual(names["again"].names(), ["f", "m", "r"])
        self.assertEqual(names["again"].do("record r"), names["record"])
