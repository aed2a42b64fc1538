"""Reports: papers that are made for the conditions of a text."""

from oncefolded.alive import alive_forest
from oncefolded.bits import switches_in, switches_needed
from oncefolded.conditions import conditions
from oncefolded.diagrams import both, chosen, negated
from oncefolded.errors import NotAllowed
from oncefolded.forests import make_forest
from oncefolded.grammars import ordered_symbols, rules_of
from oncefolded.items import is_whole
from oncefolded.packed import some_packed
from oncefolded.steps import Steps
from oncefolded.trees import whole_span


def nothing_paper(grammar, folded, diagram):
    """Return a right paper "nothing" with this diagram."""
    none, _, _ = conditions(grammar, folded, _alive(grammar, folded))
    if both(diagram, negated(none)) is not False:
        raise NotAllowed("there are trees where the diagram holds")
    return Findings(grammar, folded, diagram).nothing()


def once_paper(grammar, folded, diagram):
    """Return a right paper "once" with this diagram."""
    _, _, several = conditions(grammar, folded, _alive(grammar, folded))
    if both(diagram, several) is not False:
        raise NotAllowed("there are several trees where the diagram holds")
    return Findings(grammar, folded, diagram).once()


def _alive(grammar, folded):
    return alive_forest(grammar, folded, make_forest(grammar, folded))


def make_report(grammar, folded, count):
    """Return the pair of the conditions and a report that shows them."""
    alive = _alive(grammar, folded)
    none, one, several = conditions(grammar, folded, alive)
    papers = []
    if none is not False:
        papers.append(Findings(grammar, folded, none).nothing())
    if one is not False:
        papers.append(Findings(grammar, folded, one).once())
    for word, d in (("tree", one), ("two", several)):
        for configuration in chosen(d, count):
            span = whole_span(grammar, folded, configuration)
            trees = some_packed(grammar, alive, span, configuration)
            papers.append((word, configuration, *trees))
    return ((none, one, several), tuple(papers))


class Findings:
    """All items that can be made of folded tokens where the diagram of a paper holds.
    All conditions are bits."""

    def __init__(self, grammar, folded, d):
        self.grammar = grammar
        self.many = len(folded)
        self.wanted = d
        self.steps = Steps(grammar, folded, max(switches_in(grammar, folded), switches_needed(d)))
        self.where = self.steps.table.bits(d)
        # What stands for all of an item must be found ahead of it: so whole items
        # with one part come in the order of their symbols, and the beginnings of
        # longer items behind them.
        rules = [rule for symbol in ordered_symbols(grammar[1]) for rule in rules_of(grammar, symbol)]
        alone = [rule for rule in rules if len(grammar[1][rule][1]) == 1]
        self.rules = alone + [rule for rule in rules if rule not in alone]
        # From symbols to the list of the (rule, place) of the parts that are this symbol.
        self.places = {}
        for rule in self.rules:
            for place, (kind, told) in enumerate(grammar[1][rule][1]):
                if kind == "symbol":
                    self.places.setdefault(told, []).append((rule, place))
        # From ends to dicts from items with several parts to where they are made.
        self.grown = {}
        for begin in reversed(range(self.many)):
            self.find_from(begin)
        # From items to where trees of the text have them.
        self.need = {}
        # From (rule, place, b, e) to where they need that the part stands from b to e.
        self.parts = {}

    def find_from(self, begin):
        """Find the items with this first begin. Those with greater ones have been found."""
        self.grown = {}
        for end in range(begin + 1, self.many + 1):
            ready = list(self.grown.get(end, {}).items())
            for item, bits in ready:
                self.take(item, bits)
            for rule in self.rules:
                if self.steps.is_fit(rule, (begin,)):
                    some, _ = self.steps.found_at(rule, 0, begin, end)
                    self.take((rule, (begin,), end), some & self.steps.rule_bits[rule] & self.where)

    def take(self, item, bits):
        """Add an item, and tell what it grows to, which has a greater end."""
        if bits:
            self.steps.add(item, bits)
            for _, longer, before, some, _ in self.steps.steps_from(item):
                row = self.grown.setdefault(longer[2], {})
                row[longer] = row.get(longer, 0) | before & some

    def nothing(self):
        """Return the paper "nothing" with the diagram."""
        may = self.steps.may
        rows = [(*item, self.steps.table.diagram(may[item])) for item in sorted(may)]
        return ("nothing", self.wanted, tuple(rows))

    def once(self):
        """Return the paper "once" with the diagram."""
        # What is made of an item has been found behind it.
        for item in reversed(list(self.steps.may)):
            self.find_need(item)
        may = self.steps.may
        table = self.steps.table
        rows = [(*item, table.diagram(may[item]), table.diagram(self.need[item])) for item in sorted(may)]
        return ("once", self.wanted, tuple(rows))

    def find_need(self, item):
        """Find where an item is needed, and tell it to what it is made of."""
        bits = self.need.get(item, 0) | self.steps.covering(item) | self.needed_below(item)
        self.need[item] = bits
        if bits:
            self.hand_down(item, bits)

    def needed_below(self, item):
        """Return where a whole item is needed as a part of others; 0 for another item."""
        found = 0
        if is_whole(self.grammar, item):
            rule, begins, end = item
            for upper, place in self.places.get(self.grammar[1][rule][0], ()):
                bits = self.parts.get((upper, place, begins[0], end), 0)
                if bits:
                    found = found | bits & self.steps.lower_bits(upper, place, item)
        return found

    def hand_down(self, item, bits):
        """Tell what an item is made of that it is needed where the item is."""
        rule, begins, end = item
        key = (rule, len(begins) - 1, begins[-1], end)
        if len(begins) == 1:
            self.parts[key] = self.parts.get(key, 0) | bits
            return
        some, _ = self.steps.found_at(*key)
        for e in reversed(range(begins[-2] + 1, begins[-1] + 1)):
            earlier = (rule, begins[:-1], e)
            before = bits & self.steps.may.get(earlier, 0)
            if before:
                self.need[earlier] = self.need.get(earlier, 0) | before & some
                self.parts[key] = self.parts.get(key, 0) | before
            bits = bits & ~self.steps.presence[e - 1]
