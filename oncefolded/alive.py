"""What is alive: the parts of the forest that bars and demands leave."""

from oncefolded.bits import BitTable, switches_in
from oncefolded.diagrams import both, either, negated
from oncefolded.grammars import barred, demands_hold
from oncefolded.packed import count_packed, list_packed, lowest_first, spans_in
from oncefolded.trees import whole_span


def alive_forest(grammar, folded, forest):
    """Return the alive forest."""
    sieve = Sieve(grammar, folded)
    alive = {}
    for span in lowest_first(grammar, list(forest)):
        alternatives = sieve.alive_among(span, forest[span])
        if alternatives:
            alive[span] = alternatives
    return alive


class Sieve:
    """What is known to be alive so far."""

    def __init__(self, grammar, folded):
        self.grammar = grammar
        self.tokens = [token for token, _ in folded]
        self.table = BitTable(switches_in(grammar, folded))
        self.places = {bar[:2]: True for bar in grammar[2]}
        # From spans to their alive alternatives, those with the same rule as one:
        # where some alternative with a rule is alive is all that is asked of them.
        self.tops = {}
        # From (rule, place, span) to the bits of what `allowed_below` returns. Where
        # a rule and a place have no bar, they are None.
        self.known = {}

    def alive_among(self, span, alternatives):
        """Return the alive ones among the alternatives of a span, as a tuple. All
        spans that they need have been asked for."""
        found = []
        tops = {}
        for rule, ends, d in alternatives:
            bits = self.alive_bits(rule, ends, d)
            if bits:
                found.append((rule, ends, self.table.diagram(bits)))
                tops[rule] = tops.get(rule, 0) | bits
        self.tops[span] = tuple([(rule, (), self.table.diagram(bits)) for rule, bits in tops.items()])
        return tuple(found)

    def alive_bits(self, rule, ends, d):
        """Return where an alternative is alive."""
        firsts = [self.tokens[b] for b, _ in ends]
        if not demands_hold(self.grammar, rule, firsts):
            return 0
        bits = self.table.bits(d)
        for place, span in spans_in(self.grammar, rule, ends):
            bits = bits & self.allowed_bits(rule, place, span)
        return bits

    def allowed_bits(self, rule, place, span):
        key = (rule, place, span) if (rule, place) in self.places else (None, None, span)
        if key not in self.known:
            d = allowed_below(self.grammar, rule, place, self.tops.get(span, ()))
            self.known[key] = self.table.bits(d)
        return self.known[key]


def allowed_below(grammar, rule, place, alternatives):
    """Return the diagram that holds where one of the alternatives holds whose rule is
    not barred at the place of the rule."""
    found = False
    for below, _, d in alternatives:
        found = either(found, both(d, negated(barred(grammar, rule, place, below))))
    return found


def count_alive(grammar, alive, span, configuration):
    """Return the number of the alive trees of a span."""
    return count_packed(grammar, alive, span, configuration)


def alive_trees(grammar, folded, alive, configuration):
    """Return the ascending list of the trees of the text in a configuration, or raise TooMany."""
    span = whole_span(grammar, folded, configuration)
    return list_packed(grammar, alive, span, configuration) if span is not None else []
