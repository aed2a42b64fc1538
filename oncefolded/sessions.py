"""Sessions: a project that is edited and asked, one line at a time."""

from oncefolded.alive import alive_trees, count_alive
from oncefolded.derivations import reasons
from oncefolded.desks import Desk
from oncefolded.diagrams import holds, written
from oncefolded.errors import BadShelf, BadToken, NotAllowed, TooMany
from oncefolded.grammar_texts import number_of, read_grammar
from oncefolded.papers import check_report
from oncefolded.projects import shelf_of
from oncefolded.reports import make_report
from oncefolded.trees import trees_at, whole_span

MAX_DIGITS = 4
BITS = "01"
BAD = "bad"
MANY = "many"
NONE = "none"
REFUSED = "refused"


def tree_text(tree):
    """Return the written form of a tree."""
    pieces = []
    # A tree may be deeper than calls should be nested. Texts wait among the trees.
    waiting = [tree]
    while waiting:
        node = waiting.pop()
        if isinstance(node, str):
            pieces.append(node)
        elif isinstance(node, tuple):
            rule, children = node
            pieces.append(f"{rule}(")
            waiting.append(")")
            for place, child in reversed(list(enumerate(children))):
                waiting.extend([child, " "] if place > 0 else [child])
        else:
            pieces.append(f"#{node}")
    return "".join(pieces)


def _reason_text(reason):
    word, path, number = reason
    places = ".".join([str(place) for place in path]) if path else "."
    return f"{word} {places} {number}"


def _edit_of(line):
    """Return the arguments of the edit that a line tells, or None."""
    # A text has spaces of its own, also at its ends.
    words = line.split(" ", 3)
    if words[0] not in ("set", "add", "cut") or len(words) != (3 if words[0] == "cut" else 4):
        return None
    number = number_of(words[2], MAX_DIGITS)
    if words[1] == "" or number is None:
        return None
    return (words[1], number, 0 if words[0] == "add" else 1, words[3:])


class Session:
    """A project, with the answers to the lines of a session."""

    def __init__(self, project):
        switches, grammar, files = project
        self._switches = switches
        self._grammar = read_grammar(switches, "\n".join(grammar))
        self._desk = Desk(self._grammar, switches, shelf_of(project), files[0][0])

    def desk(self):
        """Return the desk."""
        return self._desk

    def run(self, line):
        """Return the answer to a line."""
        change = _edit_of(line)
        if change is not None:
            return self._edit(change)
        words = line.split(" ")
        if len(words) == 2 and words[0] == "drop" and words[1] != "":
            return self._edit((words[1],))
        if line == "when":
            return self._when()
        if line == "sure":
            return self._sure()
        return self._answer_at(words)

    def _edit(self, change):
        """Edit the desk, or drop a file where no lines are told."""
        try:
            if len(change) == 1:
                self._desk.drop(*change)
            else:
                self._desk.edit(*change)
        except NotAllowed:
            return REFUSED
        except BadShelf as fault:
            return f"line {fault.file} {fault.line} {fault.word}"
        except BadToken as wrong:
            return f"token {wrong.row} {wrong.column}"
        except TooMany:
            return MANY
        return "ok"

    def _when(self):
        none, one, several = [written(self._switches, d) for d in self._desk.conditions()]
        return f"none {none} one {one} several {several}"

    def _sure(self):
        count = len(self._switches)
        folded = self._desk.folded()
        _, report = make_report(self._grammar, folded, count)
        return "yes" if check_report(self._grammar, folded, count, self._desk.conditions(), report) else "no"

    def _answer_at(self, words):
        """Answer a line about one configuration."""
        configuration = self._configuration_of(words[1]) if len(words) > 1 else None
        if configuration is None:
            return BAD
        if len(words) == 2 and words[0] == "count":
            return self._count(configuration)
        if len(words) == 2 and words[0] == "text":
            return self._text(configuration)
        number = number_of(words[2], MAX_DIGITS) if len(words) == 3 else None
        if number is None or words[0] not in ("tree", "why"):
            return BAD
        try:
            return self._tree(configuration, number) if words[0] == "tree" else self._why(configuration, number)
        except TooMany:
            return MANY

    def _configuration_of(self, word):
        """Return the configuration that the word writes, or None."""
        if len(word) != len(self._switches) or not all(sign in BITS for sign in word):
            return None
        return tuple([int(sign) for sign in word])

    def _count(self, configuration):
        span = whole_span(self._grammar, self._desk.folded(), configuration)
        many = 0 if span is None else count_alive(self._grammar, self._desk.alive(), span, configuration)
        return str(many)

    def _text(self, configuration):
        texts = [text for text, _, _, d in self._desk.folded_lines() if holds(d, configuration)]
        return " ".join([f'"{text}"' for text in texts]) if texts else "-"

    def _tree(self, configuration, number):
        trees = alive_trees(self._grammar, self._desk.folded(), self._desk.alive(), configuration)
        return tree_text(trees[number]) if number < len(trees) else NONE

    def _why(self, configuration, number):
        folded = self._desk.folded()
        trees = trees_at(self._grammar, folded, self._desk.forest(), configuration)
        if number >= len(trees):
            return NONE
        found = reasons(self._grammar, folded, configuration, trees[number])
        return "; ".join([_reason_text(reason) for reason in found]) if found else "allowed"
