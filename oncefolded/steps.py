"""Steps: how items are made of one another, for all items of a text at once.

A step is a tuple (earlier, item, before, some, several): the item is made of the
earlier one (None, if it has one part) and of a token or a lower item. The rest are
bits: where the earlier item may be used and what stands behind it is absent; where
a token or a lower item is found; where several lower items are found."""

from oncefolded.bits import BitTable, absent_around
from oncefolded.grammars import barred, demands_hold, matches
from oncefolded.items import is_whole


class Steps:
    """The items that have been added, with the bits of where they may be used, and
    what can be made of them."""

    def __init__(self, grammar, folded, count):
        self.grammar = grammar
        self.tokens = [token for token, _ in folded]
        self.table = BitTable(count)
        self.presence = [self.table.bits(d) for _, d in folded]
        self.rule_bits = [self.table.bits(rule[2]) for rule in grammar[1]]
        self.may = {}
        # From (symbol, b, e) to the list of the whole items that may stand there.
        self.wholes = {}
        # What `found_at` and `found_from` have returned.
        self.found = {}
        self.rows = {}

    def add(self, item, bits):
        rule, begins, end = item
        self.may[item] = bits
        if is_whole(self.grammar, item):
            key = (self.grammar[1][rule][0], begins[0], end)
            self.wholes.setdefault(key, []).append(item)

    def lower_items(self, rule, place, b, e):
        """Return the list of the whole items that may stand at the place of the rule from b to e."""
        kind, told = self.grammar[1][rule][1][place]
        return list(self.wholes.get((told, b, e), [])) if kind == "symbol" else []

    def lower_bits(self, rule, place, lower):
        """Return where a lower item may be used at the place of the rule."""
        return self.may[lower] & ~self.table.bits(barred(self.grammar, rule, place, lower[0]))

    def covering(self, item):
        """Return where a whole item of the start may be used and covers the text; 0 for another item."""
        rule, begins, end = item
        if not is_whole(self.grammar, item) or self.grammar[1][rule][0] != self.grammar[0]:
            return 0
        return self.may[item] & absent_around(self.table, self.presence, begins[0], end)

    # What is found is kept: the whole items that it is made of must have been added
    # when it is asked for.

    def found_at(self, rule, place, b, e):
        """Return where the part at the place of the rule is found from b to e, and
        where several lower items are found for it."""
        key = (rule, place, b, e)
        if key not in self.found:
            self.found[key] = self.find_at(rule, place, b, e)
        return self.found[key]

    def find_at(self, rule, place, b, e):
        part = self.grammar[1][rule][1][place]
        if part[0] != "symbol":
            fits = e == b + 1 and matches(part, self.tokens[b])
            return (self.presence[b] if fits else 0, 0)
        some, several = 0, 0
        for lower in self.lower_items(rule, place, b, e):
            here = self.lower_bits(rule, place, lower)
            several = several | some & here
            some = some | here
        return (some, several)

    def found_from(self, rule, place, b):
        """Return the tuple of the (e, some, several) of a part that begins at b."""
        key = (rule, place, b)
        if key not in self.rows:
            found = []
            for e in range(b + 1, len(self.tokens) + 1):
                some, several = self.found_at(rule, place, b, e)
                if some:
                    found.append((e, some, several))
            self.rows[key] = tuple(found)
        return self.rows[key]

    def first_steps(self, rule, b):
        """Return the list of the steps to items with one part."""
        return self.steps_to(None, rule, (b,), self.rule_bits[rule])

    def steps_from(self, item):
        """Return the list of the steps by which an item grows by a part."""
        rule, begins, end = item
        found = []
        before = 0 if is_whole(self.grammar, item) else self.may[item]
        for b in range(end, len(self.tokens)):
            if before:
                found.extend(self.steps_to(item, rule, (*begins, b), before))
                before = before & ~self.presence[b]
        return found

    def steps_to(self, earlier, rule, begins, before):
        if not self.is_fit(rule, begins):
            return []
        return [(earlier, (rule, begins, e), before, some, several)
                for e, some, several in self.found_from(rule, len(begins) - 1, begins[-1])]

    def is_fit(self, rule, begins):
        """Tell whether items with the rule and begins have ways as far as demands go."""
        if len(begins) < len(self.grammar[1][rule][1]):
            return True
        return demands_hold(self.grammar, rule, [self.tokens[b] for b in begins])
