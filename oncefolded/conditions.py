"""Conditions: where a text has no tree, exactly one, or several."""

from oncefolded.bits import BitTable, absent_around, switches_in
from oncefolded.grammars import barred
from oncefolded.packed import lowest_first, spans_in


def conditions(grammar, folded, alive):
    """Return the three diagrams that hold where the text has no tree, one, and several."""
    table = BitTable(switches_in(grammar, folded))
    presence = [table.bits(d) for _, d in folded]
    tally = Tally(grammar, table)
    wholes = []
    for span in lowest_first(grammar, list(alive)):
        tally.count_span(span, alive[span])
        if span[0] == grammar[0]:
            whole = absent_around(table, presence, span[1], span[2])
            some, several = tally.of_span(span)
            wholes.append((whole & some, whole & several))
    some, several = joined(wholes)
    none = table.everywhere & ~some
    return (table.diagram(none), table.diagram(some & ~several), table.diagram(several))


def joined(pairs):
    """Return the bits where there is something, and where there are several things,
    if what each pair of such bits tells of is put together."""
    some, several = 0, 0
    for one, more in pairs:
        several = several | more | some & one
        some = some | one
    return some, several


class Tally:
    """Where spans have alive trees, and where several: pairs of bits."""

    def __init__(self, grammar, table):
        self.grammar = grammar
        self.table = table
        # From spans to dicts from rules to the pairs of the trees with the rule at their top.
        self.counted = {}
        # From (rule, place, span) to the pairs of the trees that may stand there.
        self.known = {}

    def count_span(self, span, alternatives):
        """Count the trees of a span. All spans that it needs have been counted."""
        found = {}
        for rule, ends, d in alternatives:
            bits = self.table.bits(d)
            several = 0
            for place, lower in spans_in(self.grammar, rule, ends):
                several = several | self.below(rule, place, lower)
            found.setdefault(rule, []).append((bits, bits & several))
        self.counted[span] = {rule: joined(pairs) for rule, pairs in found.items()}

    def below(self, rule, place, span):
        """Return where several trees of the span may stand at the place of the rule."""
        key = (rule, place, span)
        if key not in self.known:
            pairs = []
            for below, (some, several) in self.counted[span].items():
                free = ~self.table.bits(barred(self.grammar, rule, place, below))
                pairs.append((some & free, several & free))
            self.known[key] = joined(pairs)[1]
        return self.known[key]

    def of_span(self, span):
        return joined(list(self.counted[span].values()))
