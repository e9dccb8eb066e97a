"""The examples of the interface, as they are written there.

In examples.txt a line `== file` begins those of a file. Names stand for what they were in the
last example that gave them. In interface.txt stand the functions, with their parameters.
"""

import doctest
import importlib
import inspect
import os
import unittest

HERE = os.path.dirname(os.path.abspath(__file__))
FILES = """ratios intervals boxes polys nested polytexts ranges corners signs matrices kernels sets
exponentials circles roots tokens models parser printer flattening plainseries series slopeseries held
steps during carried choosing settings runs tubes runners kept narrowing safe guards crossings machines lags
switching grids tables backward joining letters times judge records commands desk""".split()
# Its examples stand with those of the parser.
WITHOUT_EXAMPLES = ["printer"]


def sections():
    with open(os.path.join(HERE, "examples.txt"), encoding="utf-8") as file:
        text = file.read()
    found = []
    for part in ("\n" + text).split("\n== ")[1:]:
        name, _, body = part.partition("\n")
        found.append((name, body))
    return found


class TestExamples(unittest.TestCase):
    def test_examples(self):
        names = {}
        for name, body in sections():
            with self.subTest(file=name):
                told = []
                examples = doctest.DocTestParser().get_doctest(body, names, name, name, 0)
                self.assertTrue(examples.examples)
                runner = doctest.DocTestRunner(verbose=False)
                runner.run(examples, out=told.append, clear_globs=False)
                names = examples.globs
                self.assertEqual("".join(told), "")

    def test_each_file_has_some(self):
        self.assertEqual([name for name, _ in sections()],
                         [f"truecourse/{name}.py" for name in FILES if name not in WITHOUT_EXAMPLES])


class TestInterface(unittest.TestCase):
    def test_each_function_stands_in_its_file(self):
        with open(os.path.join(HERE, "interface.txt"), encoding="utf-8") as file:
            lines = file.read().split("\n")[:-1]
        self.assertEqual(sorted({line.split(" ")[0] for line in lines}),
                         sorted(f"truecourse/{name}.py" for name in FILES))
        for line in lines:
            path, _, rest = line.partition(" ")
            name, _, parameters = rest.partition("(")
            module = importlib.import_module(path[:-3].replace("/", "."))
            holder, _, own = name.rpartition(".")
            # A method stands in the class itself, not in one above it only.
            function = vars(getattr(module, holder))[own] if holder else getattr(module, name)
            if isinstance(function, classmethod):
                function = getattr(getattr(module, holder), own)
            self.assertEqual(function.__module__, module.__name__)
            self.assertEqual(str(inspect.signature(function)), "(" + parameters)

    def test_properties(self):
        runner = importlib.import_module("truecourse.runners").Runner
        self.assertIsInstance(vars(runner)["time"], property)
