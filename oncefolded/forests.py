"""Forests: the trees of all configurations, read at once."""

from oncefolded.bits import all_bits, bits_of, diagram_of_bits, switches_needed
from oncefolded.diagrams import both, either, negated
from oncefolded.grammars import matches, ordered_symbols, rules_of


def make_forest(grammar, folded):
    """Return the forest of the folded tokens."""
    reading = Reading(grammar, folded)
    order = ordered_symbols(grammar[1])
    forest = {}
    # What stands inside a span begins behind it, or ends before it, or is of a
    # symbol ahead in the order: in this way it is there when it is needed.
    for i in reversed(range(len(folded))):
        for j in range(i + 1, len(folded) + 1):
            for symbol in order:
                alternatives = reading.read_span(symbol, i, j)
                if alternatives:
                    forest[(symbol, i, j)] = alternatives
            reading.read_begun(i, j)
    return forest


class Reading:
    """What has been read of folded tokens so far. All conditions are bits."""

    def __init__(self, grammar, folded):
        self.grammar = grammar
        diagrams = [d for _, d in folded] + [rule[2] for rule in grammar[1]]
        self.count = max([switches_needed(d) for d in diagrams])
        self.tokens = [token for token, _ in folded]
        self.presence = [bits_of(d, self.count) for _, d in folded]
        self.conditions = [bits_of(rule[2], self.count) for rule in grammar[1]]
        # From (e, b) to where all tokens from e to b - 1 are absent.
        self.gaps = {}
        for e in range(len(folded) + 1):
            self.gaps[(e, e)] = all_bits(self.count)
            for b in range(e, len(folded)):
                self.gaps[(e, b + 1)] = self.gaps[(e, b)] & ~self.presence[b]
        # From spans to where one of their alternatives holds.
        self.spans = {}
        # From (rule, many, i, j) to the ways in which the first parts of the rule,
        # so many, stand from i to j: the list of the pairs of ends and bits.
        self.begun = {}
        self.diagrams = {}

    def read_span(self, symbol, i, j):
        """Return the alternatives of a span as a tuple, ascending."""
        found = []
        holding = 0
        for rule in rules_of(self.grammar, symbol):
            ways = self.ways(rule, len(self.right(rule)), i, j)
            for ends, bits in sorted(ways):
                found.append((rule, ends, self.diagram(bits)))
                holding = holding | bits
        self.spans[(symbol, i, j)] = holding
        return tuple(found)

    def read_begun(self, i, j):
        """Read what rules may begin with from i to j. The spans there have been read."""
        for rule in range(len(self.grammar[1])):
            for many in range(1, len(self.right(rule))):
                self.begun[(rule, many, i, j)] = self.ways(rule, many, i, j)

    def right(self, rule):
        return self.grammar[1][rule][1]

    def ways(self, rule, many, i, j):
        """Return the ways in which the first parts of a rule, so many, stand from i to j."""
        part = self.right(rule)[many - 1]
        if many == 1:
            bits = self.conditions[rule] & self.part_bits(part, i, j)
            return [(((i, j),), bits)] if bits else []
        found = []
        for b in range(i + 1, j):
            last = self.part_bits(part, b, j)
            for e in reversed(range(i + 1, b + 1)):
                here = last & self.gaps[(e, b)]
                # A longer gap is open in no more configurations than a shorter one.
                if not here:
                    break
                found.extend([((*ends, (b, j)), before & here)
                              for ends, before in self.begun[(rule, many - 1, i, e)] if before & here])
        return found

    def part_bits(self, part, b, e):
        """Return where the part derives what is present from b to e."""
        if part[0] == "symbol":
            return self.spans[(part[1], b, e)]
        return self.presence[b] if e == b + 1 and matches(part, self.tokens[b]) else 0

    def diagram(self, bits):
        if bits not in self.diagrams:
            self.diagrams[bits] = diagram_of_bits(bits, self.count)
        return self.diagrams[bits]


def span_diagram(forest, span):
    """Return the diagram of a span."""
    found = False
    for _, _, d in forest.get(span, ()):
        found = either(found, d)
    return found


def roots(grammar, folded, forest):
    """Return the list of the roots of the forest."""
    found = []
    for span in sorted(forest):
        if span[0] == grammar[0]:
            d = span_diagram(forest, span)
            for index, (_, presence) in enumerate(folded):
                if not span[1] <= index < span[2]:
                    d = both(d, negated(presence))
            if d is not False:
                found.append((span, d))
    return found
