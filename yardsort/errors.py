"""The errors that the program raises."""


class YardsortError(ValueError):
    """The base class of all errors of the program."""


class NotRow(YardsortError):
    """A list or a text is not a row."""


class NotCode(YardsortError):
    """A list is not the code of a row."""


class NotPattern(YardsortError):
    """A list is not a row that may be a pattern."""


class BadNumber(YardsortError):
    """A number is not one of those that are allowed."""


class TooLarge(YardsortError):
    """A search or a result would be too large."""


class Unbounded(YardsortError):
    """A device of a yard has no bound."""


class NotSituation(YardsortError):
    """A tuple is not a situation of the yard and the row."""


class NotKnown(YardsortError):
    """A yard does not belong to the catalogue."""


class NotMachine(YardsortError):
    """A tuple is not a machine."""


class NotWord(YardsortError):
    """A list or an integer is not one of letters."""


class NoRow(YardsortError):
    """There is no such row."""


class NoWord(YardsortError):
    """There is no such word."""


class OtherLetters(YardsortError):
    """Two machines have different numbers of letters."""


class NotPolynomial(YardsortError):
    """A list is not a polynomial."""


class NotFraction(YardsortError):
    """A tuple is not a fraction."""


class NotTree(YardsortError):
    """A text is not the tree of a row."""


class OpenTrial(YardsortError):
    """A trial is open where none may be, or none is open."""


class NotYard(YardsortError):
    """A text is not that of a yard; `at` is the index of its fault."""

    def __init__(self, at):
        self.at = at


class BadMove(YardsortError):
    """A move cannot be made; `at` is its index."""

    def __init__(self, at):
        self.at = at


class Malformed(YardsortError):
    """A text is not that of a machine; `at` is the line of its fault."""

    def __init__(self, at):
        self.at = at


class BadJournal(YardsortError):
    """A text is not a record; `row` is the index of the first wrong row."""

    def __init__(self, row):
        self.row = row
