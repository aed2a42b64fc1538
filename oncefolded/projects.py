"""Projects: switches, a grammar and files, written as one text."""

from oncefolded.errors import NotAllowed
from oncefolded.formulas import is_switches
from oncefolded.shelves import is_file_name

MAX_FILES = 8
SWITCHES = "switches"
GRAMMAR = "grammar"
FILE = "file "
# Stands in front of each line that is no heading.
MARGIN = "  "


def read_project(text):
    """Return the project of a text, or raise NotAllowed."""
    lines = text.split("\n")
    word, *switches = lines[0].split(" ")
    if word != SWITCHES or not is_switches(tuple(switches)):
        raise NotAllowed("the first line tells no switches")
    if len(lines) < 2 or lines[1] != GRAMMAR:
        raise NotAllowed("no grammar follows the switches")
    grammar, *files = _blocks_of(lines[1:])
    names = [heading[len(FILE):] for heading, _ in files]
    if not 1 <= len(names) <= MAX_FILES or len(set(names)) < len(names):
        raise NotAllowed("there are too few or too many files, or two of one name")
    if not all(is_file_name(name) for name in names):
        raise NotAllowed("a file has a name that no file has")
    return (tuple(switches), grammar[1], tuple([(name, below) for name, (_, below) in zip(names, files)]))


def _blocks_of(lines):
    """Return the list of the pairs of a heading, the first line being one, and the
    tuple of the lines below it. All headings behind the first one are those of files."""
    blocks = []
    for line in lines:
        if line.startswith(MARGIN):
            blocks[-1][1].append(line[len(MARGIN):])
        elif not blocks or line.startswith(FILE):
            blocks.append((line, []))
        else:
            raise NotAllowed("a line is no heading and has no spaces in front")
    return [(heading, tuple(below)) for heading, below in blocks]


def project_text(project):
    """Return the text of a project."""
    switches, grammar, files = project
    lines = [" ".join((SWITCHES, *switches)), GRAMMAR]
    lines.extend([MARGIN + line for line in grammar])
    for name, below in files:
        lines.append(FILE + name)
        lines.extend([MARGIN + line for line in below])
    return "\n".join(lines)


def shelf_of(project):
    """Return the shelf of a project."""
    return {name: "\n".join(lines) for name, lines in project[2]}
