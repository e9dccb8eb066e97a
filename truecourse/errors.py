"""The errors of the package: four families, each below one of Python's own errors."""


class CourseError(ValueError):
    """One of the errors below is raised, never this one itself."""


class InvalidRatio(CourseError):
    def __init__(self, value):
        self.value = value


class InvalidInterval(CourseError):
    def __init__(self, value):
        self.value = value


class InvalidBox(CourseError):
    def __init__(self, value):
        self.value = value


class InvalidPoint(CourseError):
    def __init__(self, value):
        self.value = value


class InvalidPoly(CourseError):
    def __init__(self, value):
        self.value = value


class InvalidSystem(CourseError):
    def __init__(self, value):
        self.value = value


class InvalidText(CourseError):
    def __init__(self, value):
        self.value = value


class InvalidName(CourseError):
    def __init__(self, value):
        self.value = value


class InvalidTime(CourseError):
    def __init__(self, value):
        self.value = value


class InvalidStep(CourseError):
    def __init__(self, value):
        self.value = value


class InvalidMany(CourseError):
    def __init__(self, value):
        self.value = value


class InvalidPosition(CourseError):
    def __init__(self, value):
        self.value = value


class InvalidRoom(CourseError):
    def __init__(self, value):
        self.value = value


class InvalidSettings(CourseError):
    def __init__(self, value):
        self.value = value


class BadRecord(CourseError):
    def __init__(self, position):
        self.position = position


class BadText(CourseError):
    def __init__(self, position):
        self.position = position


class InvalidBits(CourseError):
    def __init__(self, value):
        self.value = value


class InvalidCarried(CourseError):
    def __init__(self, value):
        self.value = value


class InvalidCoefficients(CourseError):
    def __init__(self, value):
        self.value = value


class InvalidCommand(CourseError):
    def __init__(self, value):
        self.value = value


class InvalidCounts(CourseError):
    def __init__(self, value):
        self.value = value


class InvalidDeeds(CourseError):
    def __init__(self, position):
        self.position = position


class InvalidDegree(CourseError):
    def __init__(self, value):
        self.value = value


class InvalidDegrees(CourseError):
    def __init__(self, value):
        self.value = value


class InvalidExpression(CourseError):
    def __init__(self, value):
        self.value = value


class InvalidInteger(CourseError):
    def __init__(self, value):
        self.value = value


class InvalidMachine(CourseError):
    def __init__(self, value):
        self.value = value


class InvalidMatrix(CourseError):
    def __init__(self, value):
        self.value = value


class InvalidMode(CourseError):
    def __init__(self, value):
        self.value = value


class InvalidModel(CourseError):
    def __init__(self, value):
        self.value = value


class InvalidNames(CourseError):
    def __init__(self, value):
        self.value = value


class InvalidNested(CourseError):
    def __init__(self, value):
        self.value = value


class InvalidNumbers(CourseError):
    def __init__(self, value):
        self.value = value


class InvalidPaper(CourseError):
    def __init__(self, value):
        self.value = value


class InvalidPart(CourseError):
    def __init__(self, value):
        self.value = value


class InvalidPolys(CourseError):
    def __init__(self, value):
        self.value = value


class InvalidPositions(CourseError):
    def __init__(self, value):
        self.value = value


class InvalidRow(CourseError):
    def __init__(self, value):
        self.value = value


class InvalidRows(CourseError):
    def __init__(self, value):
        self.value = value


class InvalidRun(CourseError):
    def __init__(self, value):
        self.value = value


class InvalidSet(CourseError):
    def __init__(self, value):
        self.value = value


class InvalidStretches(CourseError):
    def __init__(self, value):
        self.value = value


class InvalidSwitched(CourseError):
    def __init__(self, value):
        self.value = value


class InvalidTable(CourseError):
    def __init__(self, value):
        self.value = value


class InvalidTarget(CourseError):
    def __init__(self, value):
        self.value = value


class InvalidTerms(CourseError):
    def __init__(self, value):
        self.value = value


class InvalidWord(CourseError):
    def __init__(self, value):
        self.value = value


class MissingError(LookupError):
    """One of the errors below is raised, never this one itself."""


class UnknownLetter(MissingError):
    def __init__(self, name):
        self.name = name


class UnknownName(MissingError):
    def __init__(self, value):
        self.value = value


class StateError(RuntimeError):
    """One of the errors below is raised, never this one itself."""


class CommandFailed(StateError):
    def __init__(self, position):
        self.position = position


class NameTaken(StateError):
    def __init__(self, name):
        self.name = name


class NoInverse(StateError):
    def __init__(self):
        pass


class NoQuotient(StateError):
    def __init__(self):
        pass


class NoRun(StateError):
    def __init__(self):
        pass


class NotAlone(StateError):
    def __init__(self, position):
        self.position = position


class NotHeld(StateError):
    def __init__(self):
        pass


class NotKept(StateError):
    def __init__(self):
        pass


class NotSquare(StateError):
    def __init__(self):
        pass


class NotStill(StateError):
    def __init__(self):
        pass


class NotThere(StateError):
    def __init__(self):
        pass


class NothingToRedo(StateError):
    def __init__(self):
        pass


class NothingToUndo(StateError):
    def __init__(self):
        pass


class SameName(StateError):
    def __init__(self, name):
        self.name = name


class UnlikeLetters(StateError):
    def __init__(self):
        pass


class UnlikeSizes(StateError):
    def __init__(self):
        pass


class LimitError(ArithmeticError):
    """One of the errors below is raised, never this one itself."""


class TooMany(LimitError):
    def __init__(self, what, limit):
        self.what = what
        self.limit = limit
