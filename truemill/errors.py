"""The errors that the program raises."""


class MillError(ValueError):
    """The base class of all errors of the program."""


class BadTree(MillError):
    """A path cannot stand in a tree."""

    def __init__(self, path):
        self.path = path


class Conflict(MillError):
    """Changes do not fit a tree, or each other, at a path."""

    def __init__(self, path):
        self.path = path


class BadText(MillError):
    """A text cannot be kept in a store."""

    def __init__(self, reason):
        self.reason = reason


class StoreFull(MillError):
    """A store has no room for a text."""


class NoCredit(MillError):
    """A link cannot send any more for now."""


class BadMessage(MillError):
    """A text is not a message of the form that is asked for."""


class Missing(MillError):
    """No text with a name is here."""

    def __init__(self, name):
        self.name = name


class NotPinned(MillError):
    """A name has no pin."""

    def __init__(self, name):
        self.name = name


class SyntaxProblem(MillError):
    """A build file breaks the grammar at a place."""

    def __init__(self, line, column):
        self.line = line
        self.column = column


class EvalProblem(MillError):
    """A build file cannot be evaluated, for a reason at a place."""

    def __init__(self, line, column, reason):
        self.line = line
        self.column = column
        self.reason = reason


class GraphProblem(MillError):
    """Something is wrong with a label in a graph."""

    def __init__(self, label, reason):
        self.label = label
        self.reason = reason


class RosterProblem(MillError):
    """A roster refuses something, for a reason."""

    def __init__(self, reason):
        self.reason = reason


class FloorProblem(MillError):
    """A floor refuses something, for a reason."""

    def __init__(self, reason):
        self.reason = reason


class BuildProblem(MillError):
    """A build was told two results for one key."""

    def __init__(self, key):
        self.key = key


class JournalProblem(MillError):
    """A deed cannot be done again."""

    def __init__(self, position):
        self.position = position
