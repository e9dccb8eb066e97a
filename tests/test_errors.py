"""The errors: their families, parameters and attributes."""

import inspect
import unittest

from truecourse import errors

FAMILIES = {
    "CourseError": ValueError, "MissingError": LookupError, "StateError": RuntimeError,
    "LimitError": ArithmeticError}

MEMBERS = {
    "CourseError": """InvalidRatio(value) InvalidInterval(value) InvalidBox(value)
        InvalidPoint(value) InvalidPoly(value) InvalidSystem(value) InvalidText(value)
        InvalidName(value) InvalidTime(value) InvalidStep(value) InvalidMany(value)
        InvalidPosition(value) InvalidRoom(value) InvalidSettings(value) BadRecord(position)
        BadText(position) InvalidBits(value) InvalidCarried(value) InvalidCoefficients(value)
        InvalidCommand(value) InvalidCounts(value) InvalidDeeds(position) InvalidDegree(value)
        InvalidDegrees(value) InvalidExpression(value) InvalidInteger(value) InvalidMachine(value)
        InvalidMatrix(value) InvalidMode(value) InvalidModel(value) InvalidNames(value)
        InvalidNested(value) InvalidNumbers(value) InvalidPaper(value) InvalidPart(value)
        InvalidPolys(value) InvalidPositions(value) InvalidRow(value) InvalidRows(value)
        InvalidRun(value) InvalidSet(value) InvalidStretches(value) InvalidSwitched(value)
        InvalidTable(value) InvalidTarget(value) InvalidTerms(value) InvalidWord(value)""",
    "MissingError": "UnknownLetter(name) UnknownName(value)",
    "StateError": """CommandFailed(position) NameTaken(name) NoInverse() NoQuotient() NoRun()
        NotAlone(position) NotHeld() NotKept() NotSquare() NotStill() NotThere() NothingToRedo()
        NothingToUndo() SameName(name) UnlikeLetters() UnlikeSizes()""",
    "LimitError": "TooMany(what,limit)"}


def listed():
    """The tuples (class, its family, the names of its parameters)."""
    found = []
    for family, text in MEMBERS.items():
        for entry in text.split():
            name, _, rest = entry.partition("(")
            names = [part for part in rest.rstrip(")").split(",") if part]
            found.append((getattr(errors, name), getattr(errors, family), names))
    return found


class TestErrors(unittest.TestCase):
    def test_families(self):
        for name, base in FAMILIES.items():
            self.assertEqual(getattr(errors, name).__bases__, (base,))

    def test_nothing_else(self):
        classes = {name for name, value in vars(errors).items() if inspect.isclass(value)}
        names = {own.__name__ for own, _, _ in listed()}
        self.assertEqual(classes, names | set(FAMILIES))

    def test_one_base_each(self):
        for own, family, _ in listed():
            self.assertEqual(own.__bases__, (family,), own)

    def test_parameters_and_attributes(self):
        for own, _, names in listed():
            with self.subTest(own=own):
                self.assertEqual(list(inspect.signature(own).parameters), names)
                for values in ([1, "b"], [None, []], [(True, "x"), {}]):
                    values = values[:len(names)]
                    for made in (own(*values), own(**dict(zip(names, values)))):
                        told = [getattr(made, name) for name in names]
                        self.assertTrue(all(a is b for a, b in zip(told, values)))
                        self.assertEqual(vars(made), dict(zip(names, values)))

    def test_caught_by_family(self):
        for own, family, names in listed():
            with self.assertRaises(family):
                raise own(*names)
