"""Forests: the trees of all configurations, read at once."""

from oncefolded.bits import BitTable, switches_in
from oncefolded.diagrams import both, either, negated
from oncefolded.grammars import matches, ordered_symbols, rules_of


def make_forest(grammar, folded):
    """Return the forest of the folded tokens."""
    reading = Reading(grammar, switches_in(grammar, folded))
    return reading.forest_of(folded)


class Piece:
    """What has been read of one content. Places are counted from its first token,
    and all conditions are bits, except those of the alternatives."""

    def __init__(self):
        # From symbols to the tuples of their alternatives, ascending.
        self.alternatives = {}
        # From symbols to where one of their alternatives holds.
        self.holding = {}
        # From (rule, many) to the ways in which the first parts of the rule, so
        # many, stand from end to end: the list of the pairs of ends and bits.
        self.begun = {}


class Reading:
    """What has been read so far, over so many switches. What can be read of
    neighbouring tokens depends on their content alone, so each is read once."""

    def __init__(self, grammar, count):
        self.grammar = grammar
        self.table = BitTable(count)
        self.order = ordered_symbols(grammar[1])
        self.rule_bits = [self.table.bits(rule[2]) for rule in grammar[1]]
        # Each triple (kind, text, diagram) has a number. A content is the tuple of
        # the numbers of its tokens.
        self.numbers = {}
        self.tokens = []
        self.presence = []
        self.pieces = {}

    def forest_of(self, folded):
        """Return the forest of folded tokens."""
        content = tuple([self.number_of(token, d) for token, d in folded])
        forest = {}
        # What stands inside a content begins behind it, or ends before it: in this
        # way it has been read when it is needed.
        for i in reversed(range(len(content))):
            for j in range(i + 1, len(content) + 1):
                piece = self.piece_of(content[i:j])
                for symbol, alternatives in piece.alternatives.items():
                    forest[(symbol, i, j)] = tuple([(rule, _moved(ends, i), d) for rule, ends, d in alternatives])
        return forest

    def number_of(self, token, d):
        key = (token[0], token[1], d)
        if key not in self.numbers:
            self.numbers[key] = len(self.tokens)
            self.tokens.append(token)
            self.presence.append(self.table.bits(d))
        return self.numbers[key]

    def many_read(self):
        """Return the number of the contents that have been read."""
        return len(self.pieces)

    def piece_of(self, content):
        if content not in self.pieces:
            # A part may stand for all of the content, so what has been read of it
            # must be found while the rest of it is still read.
            self.pieces[content] = Piece()
            for symbol in self.order:
                self.read_symbol(content, symbol)
            self.read_begun(content)
        return self.pieces[content]

    def read_symbol(self, content, symbol):
        piece = self.pieces[content]
        found = []
        holding = 0
        for rule in rules_of(self.grammar, symbol):
            ways = self.ways(rule, len(self.right(rule)), content)
            for ends, bits in sorted(ways):
                found.append((rule, ends, self.table.diagram(bits)))
                holding = holding | bits
        piece.holding[symbol] = holding
        if found:
            piece.alternatives[symbol] = tuple(found)

    def read_begun(self, content):
        """Read what rules may begin with. The symbols have been read."""
        piece = self.pieces[content]
        for rule in range(len(self.grammar[1])):
            for many in range(1, len(self.right(rule))):
                piece.begun[(rule, many)] = self.ways(rule, many, content)

    def right(self, rule):
        return self.grammar[1][rule][1]

    def ways(self, rule, many, content):
        """Return the ways in which the first parts of a rule, so many, stand from
        end to end of a content."""
        part = self.right(rule)[many - 1]
        if many == 1:
            bits = self.rule_bits[rule] & self.part_bits(part, content)
            return [(((0, len(content)),), bits)] if bits else []
        found = []
        for b in range(1, len(content)):
            here = self.part_bits(part, content[b:])
            e = b
            # A longer gap is open in no more configurations than a shorter one.
            while here and e > 0:
                begun = self.pieces[content[:e]].begun[(rule, many - 1)]
                found.extend([((*ends, (b, len(content))), before & here) for ends, before in begun if before & here])
                e -= 1
                here = here & ~self.presence[content[e]]
        return found

    def part_bits(self, part, content):
        """Return where the part derives what is present of a content."""
        if part[0] == "symbol":
            return self.pieces[content].holding[part[1]]
        fits = len(content) == 1 and matches(part, self.tokens[content[0]])
        return self.presence[content[0]] if fits else 0


def _moved(ends, by):
    return tuple([(b + by, e + by) for b, e in ends])


def span_diagram(forest, span):
    """Return the diagram of a span."""
    found = False
    for _, _, d in forest.get(span, ()):
        found = either(found, d)
    return found


def roots(grammar, folded, forest):
    """Return the list of the roots of the forest."""
    found = []
    for span in sorted(forest):
        if span[0] == grammar[0]:
            d = span_diagram(forest, span)
            for index, (_, presence) in enumerate(folded):
                if not span[1] <= index < span[2]:
                    d = both(d, negated(presence))
            if d is not False:
                found.append((span, d))
    return found
