"""Shelves: files whose lines stand under conditions, chosen and folded."""

from oncefolded.diagrams import both, diagram_of, negated
from oncefolded.errors import BadFormula, BadShelf
from oncefolded.formulas import is_true, read_formula

MAX_FILE_NAME = 8
MAX_LINE = 60
MAX_NESTED = 6
MAX_LEVELS = 4
MAX_LINES = 40
FILE_NAME_SIGNS = "abcdefghijklmnopqrstuvwxyz0123456789"
IF = "#if "
USE = "#use "


def is_file_name(text):
    """Tell whether the text is the name of a file."""
    return 1 <= len(text) <= MAX_FILE_NAME and all(sign in FILE_NAME_SIGNS for sign in text)


def lines_of(text):
    """Return the list of the lines of a text."""
    return text.split("\n") if text != "" else []


def choose(shelf, name, switches, configuration):
    """Return the chosen lines of a configuration as tuples (text, file, line)."""
    reader = _read(shelf, name, switches)
    truths = [is_true(switches, formula, configuration) for formula in reader.formulas]
    return [(text, file, line) for text, file, line, conditions in reader.contents
            if all(truths[number] == wanted for number, wanted in conditions)]


def fold(shelf, name, switches):
    """Return the folded lines as tuples (text, file, line, diagram)."""
    reader = _read(shelf, name, switches)
    diagrams = [diagram_of(switches, formula) for formula in reader.formulas]
    found = []
    for text, file, line, conditions in reader.contents:
        d = True
        for number, wanted in conditions:
            d = both(d, diagrams[number] if wanted else negated(diagrams[number]))
        if d is not False:
            found.append((text, file, line, d))
    return found


def _read(shelf, name, switches):
    if name not in shelf:
        raise BadShelf(name, 0, "missing")
    reader = Reader(switches)
    reader.read_file(shelf, name)
    return reader


class Level:
    """A file that is being read."""

    def __init__(self, file):
        self.file = file
        self.line = 0
        # For each open #if its line and its condition. A condition is the number
        # of a formula and whether the formula must be true or not.
        self.opened = []


class Reader:
    """What reading a shelf has found so far: formulas, and content lines as
    tuples (text, file, line, conditions)."""

    def __init__(self, switches):
        self.switches = switches
        self.formulas = []
        self.contents = []
        self.levels = []

    def read_file(self, shelf, file):
        """Read a file that the shelf has, with all that it uses."""
        level = Level(file)
        self.levels.append(level)
        for text in lines_of(shelf[file]):
            level.line += 1
            self.read_line(shelf, text)
        if level.opened:
            raise BadShelf(file, level.opened[-1][0], "open")
        self.levels.pop()

    def read_line(self, shelf, text):
        if not text.startswith("#"):
            self.read_content(text)
        elif text.startswith(IF):
            self.read_if(text[len(IF):])
        elif text == "#else":
            self.read_else()
        elif text == "#end":
            self.read_end()
        elif text.startswith(USE):
            self.read_use(shelf, text[len(USE):])
        else:
            self.refuse("line")

    def refuse(self, word):
        """Raise the fault with this word in the line that was read last."""
        level = self.levels[-1]
        raise BadShelf(level.file, level.line, word)

    # The faults of one line are looked for in the order in which they count.

    def read_content(self, text):
        if len(text) > MAX_LINE or not all(" " <= sign <= "~" for sign in text):
            self.refuse("line")
        if len(self.contents) == MAX_LINES:
            self.refuse("long")
        level = self.levels[-1]
        conditions = [condition for above in self.levels for _, condition in above.opened]
        self.contents.append((text, level.file, level.line, tuple(conditions)))

    def read_if(self, text):
        level = self.levels[-1]
        try:
            formula = read_formula(self.switches, text)
        except BadFormula:
            raise BadShelf(level.file, level.line, "formula") from None
        if len(level.opened) == MAX_NESTED:
            self.refuse("nested")
        level.opened.append((level.line, (len(self.formulas), True)))
        self.formulas.append(formula)

    def read_else(self):
        opened = self.levels[-1].opened
        if not opened:
            self.refuse("line")
        line, (number, wanted) = opened[-1]
        if not wanted:
            self.refuse("line")
        opened[-1] = (line, (number, False))

    def read_end(self):
        opened = self.levels[-1].opened
        if not opened:
            self.refuse("line")
        opened.pop()

    def read_use(self, shelf, file):
        if not is_file_name(file):
            self.refuse("line")
        if file not in shelf:
            self.refuse("missing")
        if file in [level.file for level in self.levels]:
            self.refuse("ring")
        if len(self.levels) == MAX_LEVELS:
            self.refuse("deep")
        self.read_file(shelf, file)
