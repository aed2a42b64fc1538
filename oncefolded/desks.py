"""Desks: a shelf that is edited, and what is read of it."""

from oncefolded.alive import alive_forest
from oncefolded.conditions import conditions
from oncefolded.errors import NotAllowed
from oncefolded.forests import Reading
from oncefolded.shelves import fold, is_file_name, lines_of
from oncefolded.tokens import fold_tokens


class Desk:
    """A grammar, switches, a shelf and the name of its first file, with the folded
    tokens and the forest of the text."""

    def __init__(self, grammar, switches, shelf, name):
        self._grammar = grammar
        self._switches = switches
        self._name = name
        self._reading = Reading(grammar, len(switches))
        self._take(shelf)

    def _take(self, shelf):
        """Make everything anew for a shelf, which is copied."""
        folded_lines = fold(shelf, self._name, self._switches)
        folded_tokens = fold_tokens(folded_lines)
        # Only now nothing can be refused any more.
        self._shelf = {file: shelf[file] for file in shelf}
        self._folded_lines = folded_lines
        self._folded_tokens = folded_tokens
        self._forest = self._reading.forest_of(folded_tokens)
        self._alive = alive_forest(self._grammar, folded_tokens, self._forest)

    def edit(self, file, first, count, lines):
        """Replace lines of a file, so many from the number `first` on, by other ones."""
        old = lines_of(self._shelf.get(file, ""))
        if first < 0 or count < 0 or first + count > len(old):
            raise NotAllowed(f"{file} does not have these lines")
        if not is_file_name(file) or any("\n" in line for line in lines):
            raise NotAllowed("a name of a file or a line has signs that it cannot have")
        shelf = {name: self._shelf[name] for name in self._shelf}
        shelf[file] = "\n".join(old[:first] + list(lines) + old[first + count:])
        self._take(shelf)

    def drop(self, file):
        """Take a file off the shelf."""
        if file not in self._shelf:
            raise NotAllowed(f"there is no file {file}")
        self._take({name: self._shelf[name] for name in self._shelf if name != file})

    def text(self, file):
        """Return the text of a file."""
        if file not in self._shelf:
            raise NotAllowed(f"there is no file {file}")
        return self._shelf[file]

    def files(self):
        """Return the ascending list of the names of the files."""
        return sorted(self._shelf)

    def folded_lines(self):
        """Return the list of the folded lines."""
        return list(self._folded_lines)

    def folded(self):
        """Return the list of the folded tokens."""
        return list(self._folded_tokens)

    def forest(self):
        """Return the forest."""
        return {span: self._forest[span] for span in self._forest}

    def alive(self):
        """Return the alive forest."""
        return {span: self._alive[span] for span in self._alive}

    def conditions(self):
        """Return where the text has no tree, one, and several."""
        return conditions(self._grammar, self._folded_tokens, self._alive)

    def read(self):
        """Return the number of the contents that have been read so far."""
        return self._reading.many_read()
