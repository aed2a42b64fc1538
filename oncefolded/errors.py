"""The errors that the package raises."""


class FoldError(ValueError):
    """What every error of the package is."""


class BadFormula(FoldError):
    """A text is not that of a formula."""


class BadShelf(FoldError):
    """Reading a shelf finds a fault, named by a word, in a line of a file."""

    def __init__(self, file, line, word):
        super().__init__(f"{file}, line {line}: {word}")
        self.file = file
        self.line = line
        self.word = word


class BadToken(FoldError):
    """A character of a row belongs to no token."""

    def __init__(self, row, column):
        super().__init__(f"row {row}, column {column}: no token")
        self.row = row
        self.column = column


class BadGrammar(FoldError):
    """A line of a text of a grammar is wrong; 0 if no single line is."""

    def __init__(self, line):
        super().__init__(f"line {line} of the grammar")
        self.line = line


class TooMany(FoldError):
    """There are more tokens or trees than are allowed."""


class NotAllowed(FoldError):
    """What was asked for is refused."""
