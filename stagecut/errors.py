"""The errors that the program raises."""


class CutError(ValueError):
    """What all errors of the program are."""


class TextError(CutError):
    """A text that cannot be read on from a place in it."""

    def __init__(self, row, column):
        CutError.__init__(self, f"row {row}, column {column}")
        self.row = row
        self.column = column


class BadCharacter(TextError):
    """A character that begins no token."""


class BadNumber(TextError):
    """A number or literal that is written wrongly or is too large."""


class Unexpected(TextError):
    """A token that cannot stand where it stands."""


class Unfit(CutError):
    """A machine with something that does not fit, at a row of a stage or at an item (stage -1)."""

    def __init__(self, stage, index, word):
        CutError.__init__(self, f"stage {stage}, index {index}: {word}")
        self.stage = stage
        self.index = index
        self.word = word


class BadLine(CutError):
    """A line, counted from 1, that cannot stand where it stands."""

    def __init__(self, line):
        CutError.__init__(self, f"line {line}")
        self.line = line


class BadImage(CutError):
    """A row of bytes that is not that of one thing."""


class TooMany(CutError):
    """More nodes would be made than are allowed."""


class NoRoute(CutError):
    """A cell whose value cannot be led to all cells that read it."""

    def __init__(self, cell):
        CutError.__init__(self, f"cell {cell}")
        self.cell = cell


class BadCode(CutError):
    """A statement, counted from 1, that cannot be assembled."""

    def __init__(self, statement, word):
        CutError.__init__(self, f"statement {statement}: {word}")
        self.statement = statement
        self.word = word
