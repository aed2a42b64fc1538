"""Packed trees: a dict from spans to alternatives stands for all trees that are
put together from them, as the bars of the grammar allow it. The alive forest is such
a dict, for all configurations; the forest is one for a grammar without bars."""

from oncefolded.diagrams import holds
from oncefolded.errors import TooMany
from oncefolded.grammars import ordered_symbols

MAX_TREES = 300


def without_bars(grammar):
    """Return the grammar without its bars."""
    return (grammar[0], grammar[1], ())


def spans_in(grammar, rule, ends):
    """Return the list of the pairs of place and span of the parts that are symbols."""
    right = grammar[1][rule][1]
    return [(place, (right[place][1], b, e)) for place, (b, e) in enumerate(ends) if right[place][0] == "symbol"]


def lowest_first(grammar, spans):
    """Return the list of the spans, each behind those that its alternatives need."""
    ranks = {symbol: rank for rank, symbol in enumerate(ordered_symbols(grammar[1]))}
    rows = [(span[2] - span[1], ranks.get(span[0], 0), span) for span in spans]
    return [span for _, _, span in sorted(rows)]


class Choices:
    """What may be chosen in a configuration where trees are put together. The trees
    of one span with one rule at their top are a choice (span, rule)."""

    def __init__(self, grammar, packed, configuration):
        self.grammar = grammar
        self.packed = {span: packed[span] for span in packed}
        self.configuration = configuration
        self.bars = {bar[:3]: True for bar in grammar[2] if holds(bar[3], configuration)}
        # From spans to dicts from rules to the tuples of the ends of the alternatives that hold.
        self.known = {}

    def read_span(self, span):
        if span not in self.known:
            found = {}
            for rule, ends, d in self.packed.get(span, ()):
                if holds(d, self.configuration):
                    found.setdefault(rule, []).append(ends)
            self.known[span] = {rule: tuple(rows) for rule, rows in found.items()}

    def tops(self, span):
        """Return the list of the choices of a span."""
        self.read_span(span)
        return [(span, rule) for rule in self.known[span]]

    def ends_of(self, choice):
        """Return the tuple of the ends that the tops of the trees of a choice have."""
        span, rule = choice
        self.read_span(span)
        return self.known[span][rule]

    def below(self, rule, place, span):
        """Return the list of the choices of a span that may stand at a place of a rule."""
        return [choice for choice in self.tops(span) if (rule, place, choice[1]) not in self.bars]

    def needed(self, tops):
        """Return the list of the choices and of all choices that they need, each
        behind those that it needs."""
        rules = {}
        places = {}
        waiting = list(tops)
        while waiting:
            span, rule = waiting.pop()
            if rule in rules.setdefault(span, []):
                continue
            rules[span].append(rule)
            for ends in self.ends_of((span, rule)):
                for place, lower in spans_in(self.grammar, rule, ends):
                    if (rule, place, lower) not in places:
                        places[(rule, place, lower)] = True
                        waiting.extend(self.below(rule, place, lower))
        return [(span, rule) for span in lowest_first(self.grammar, list(rules)) for rule in rules[span]]

    def counts(self, choices):
        """Return a dict from the choices, which stand behind what they need, to the
        numbers of their trees."""
        counts = {}
        sums = {}
        for choice in choices:
            rule = choice[1]
            total = 0
            for ends in self.ends_of(choice):
                many = 1
                for place, lower in spans_in(self.grammar, rule, ends):
                    key = (rule, place, lower)
                    if key not in sums:
                        sums[key] = sum([counts[top] for top in self.below(rule, place, lower)])
                    many = many * sums[key]
                total += many
            counts[choice] = total
        return counts

    def rows_of_children(self, trees, rule, ends):
        """Return the list of the tuples of children that an alternative gives."""
        rows = [()]
        lower = {place: span for place, span in spans_in(self.grammar, rule, ends)}
        for place, (b, _) in enumerate(ends):
            children = [b]
            if place in lower:
                children = [tree for choice in self.below(rule, place, lower[place]) for tree in trees[choice]]
            rows = [row + (child,) for row in rows for child in children]
        return rows

    def options(self, choices):
        """Return the list of the pairs of a rule and the ends that the tops of the
        trees of choices have."""
        return [(choice[1], ends) for choice in choices for ends in self.ends_of(choice)]

    def nodes_of_one(self, span, turn):
        """Return the nodes of one tree of a span, each ahead of what is below it, and
        the first place among them where there was something else to choose, or
        None. At the place `turn` the second alternative is chosen, elsewhere the first."""
        nodes = []
        fork = None
        waiting = [self.options(self.tops(span))]
        while waiting:
            node = waiting.pop()
            if isinstance(node, list):
                if len(node) > 1 and fork is None:
                    fork = len(nodes)
                rule, ends = node[1 if len(nodes) == turn else 0]
                node = (rule, len(ends))
                children = [b for b, _ in ends]
                for place, lower in spans_in(self.grammar, rule, ends):
                    children[place] = self.options(self.below(rule, place, lower))
                waiting.extend(children[::-1])
            nodes.append(node)
        return nodes, fork


def count_packed(grammar, packed, span, configuration):
    """Return the number of the trees of a span."""
    choices = Choices(grammar, packed, configuration)
    tops = choices.tops(span)
    counts = choices.counts(choices.needed(tops))
    return sum([counts[top] for top in tops])


def list_packed(grammar, packed, span, configuration):
    """Return the ascending list of the trees of a span, or raise TooMany."""
    choices = Choices(grammar, packed, configuration)
    tops = choices.tops(span)
    needed = choices.needed(tops)
    counts = choices.counts(needed)
    # Each choice that is needed has a part in some tree of the span, so none has more trees.
    if sum([counts[top] for top in tops]) > MAX_TREES:
        raise TooMany(f"there are more than {MAX_TREES} trees")
    trees = {}
    for choice in needed:
        trees[choice] = [(rule, children) for rule, ends in choices.options([choice])
                         for children in choices.rows_of_children(trees, rule, ends)]
    return sorted([tree for top in tops for tree in trees[top]], key=numbers_in)


def some_packed(grammar, packed, span, configuration):
    """Return one tree of a span, which has one, and another if there are several:
    the ascending list of the two."""
    choices = Choices(grammar, packed, configuration)
    nodes, fork = choices.nodes_of_one(span, None)
    if fork is None:
        return [_tree_of(nodes)]
    others, _ = choices.nodes_of_one(span, fork)
    return sorted([_tree_of(nodes), _tree_of(others)], key=numbers_in)


def _tree_of(nodes):
    """Return the tree with these nodes: pairs of a rule and the number of its
    children, each ahead of its children, and indexes."""
    built = []
    for node in reversed(nodes):
        if isinstance(node, tuple):
            rule, many = node
            node = (rule, tuple([built.pop() for _ in range(many)]))
        built.append(node)
    return built[0]


def numbers_in(tree):
    """Return the list of the rules and indexes in a tree, each rule ahead of what is
    below it. Lists of two trees compare as the trees do, which may be too deep
    for it: the number of a rule tells how many children it has, and of what kind."""
    numbers = []
    waiting = [tree]
    while waiting:
        node = waiting.pop()
        if isinstance(node, tuple):
            rule, children = node
            numbers.append(rule)
            waiting.extend(children[::-1])
        else:
            numbers.append(node)
    return numbers
