"""The errors of the package.

LayoutError stands above all others. Each of the others stands directly under
it, so that catching one of them never catches another one.
"""


class LayoutError(ValueError):
    """Any error that the package tells."""


class TooMany(LayoutError):
    """More than the limit allows."""

    def __init__(self, limit):
        super().__init__(f"the limit of {limit} is exceeded")
        self.limit = limit


class SyntaxProblem(LayoutError):
    """A text that does not go on at a line and a column, both counted from 1."""

    def __init__(self, line, column):
        super().__init__(f"line {line}, column {column}: the text does not go on like this")
        self.line = line
        self.column = column


class NoStep(LayoutError):
    """The object at a place, counted from 0, is no step at its layout; -1: there is no list of steps."""

    def __init__(self, place):
        super().__init__(f"no step at place {place}")
        self.place = place


class NoRow(LayoutError):
    """The object at a place, counted from 0, is no row; -1: there is no list of rows."""

    def __init__(self, place):
        super().__init__(f"no row at place {place}")
        self.place = place


class NoTable(LayoutError):
    """Rows that are no table, as a fault shows."""

    def __init__(self, fault):
        super().__init__("the rows are no table")
        self.fault = fault


class NotLike(LayoutError):
    """Two layouts that no steps lead from the one to the other, as the finder's answer tells."""

    def __init__(self, answer):
        super().__init__("no steps lead from the one layout to the other one")
        self.answer = answer


class NoKind(LayoutError):
    """An object that is no kind."""


class NoLayout(LayoutError):
    """An object that is no layout, or factors that are none of a layout."""


class NoTree(LayoutError):
    """An object that is no tree of the kind."""


class NoRecord(LayoutError):
    """An object that is no record of the layout."""


class NoName(LayoutError):
    """An object that is no name, or none under which there is something."""


class NoNumber(LayoutError):
    """An object that is no number within its bounds."""


class NoEra(LayoutError):
    """An object that is the number of no present era, or a view whose era has ended."""


class NoMark(LayoutError):
    """Nothing is there to be undone or done again."""


class Mismatch(LayoutError):
    """Arguments that do not fit one another."""


class InvalidCommand(LayoutError):
    """A line that is no command of the console."""
