"""Packed trees: a dict from spans to alternatives stands for all trees that are
put together from them. The forest is such a dict, for all configurations."""

from oncefolded.diagrams import holds
from oncefolded.errors import TooMany
from oncefolded.grammars import ordered_symbols

MAX_TREES = 300


def spans_in(grammar, rule, ends):
    """Return the list of the spans of the parts that are symbols."""
    right = grammar[1][rule][1]
    return [(told, b, e) for (kind, told), (b, e) in zip(right, ends) if kind == "symbol"]


def count_packed(grammar, packed, span, configuration):
    """Return the number of the trees of a span."""
    counts = _counts(grammar, _ways_below(grammar, packed, span, configuration))
    return counts[span]


def list_packed(grammar, packed, span, configuration):
    """Return the ascending list of the trees of a span, or raise TooMany."""
    ways = _ways_below(grammar, packed, span, configuration)
    # Each span below has a part in some tree of this one, so none has more trees.
    if _counts(grammar, ways)[span] > MAX_TREES:
        raise TooMany(f"there are more than {MAX_TREES} trees")
    trees = {}
    for below in _lowest_first(grammar, ways):
        trees[below] = [(rule, children) for rule, ends in ways[below]
                        for children in _rows_of_children(grammar, trees, rule, ends)]
    return sorted(trees[span], key=_numbers_in)


def _ways_below(grammar, packed, span, configuration):
    """Return the alternatives that hold in the configuration, as pairs (rule, ends):
    a dict with those of the span and of all spans that they need."""
    ways = {}
    waiting = [span]
    while waiting:
        top = waiting.pop()
        if top not in ways:
            ways[top] = [(rule, ends) for rule, ends, d in packed.get(top, ()) if holds(d, configuration)]
            for rule, ends in ways[top]:
                waiting.extend(spans_in(grammar, rule, ends))
    return ways


def _lowest_first(grammar, ways):
    """Return the list of the spans, each behind those that its alternatives need."""
    ranks = {symbol: rank for rank, symbol in enumerate(ordered_symbols(grammar[1]))}
    rows = [(span[2] - span[1], ranks.get(span[0], 0), span) for span in ways]
    return [span for _, _, span in sorted(rows)]


def _counts(grammar, ways):
    """Return a dict from the spans to the numbers of their trees."""
    counts = {}
    for span in _lowest_first(grammar, ways):
        counts[span] = 0
        for rule, ends in ways[span]:
            many = 1
            for below in spans_in(grammar, rule, ends):
                many = many * counts[below]
            counts[span] += many
    return counts


def _rows_of_children(grammar, trees, rule, ends):
    """Return the list of the tuples of children that an alternative gives."""
    rows = [()]
    for (kind, told), (b, e) in zip(grammar[1][rule][1], ends):
        choices = trees[(told, b, e)] if kind == "symbol" else [b]
        rows = [row + (child,) for row in rows for child in choices]
    return rows


def _numbers_in(tree):
    """Return the list of the rules and indexes in a tree, each rule ahead of what is
    below it. Lists of two trees compare as the trees do, which may be too deep
    for it: the number of a rule tells how many children it has, and of what kind."""
    numbers = []
    waiting = [tree]
    while waiting:
        node = waiting.pop()
        if isinstance(node, tuple):
            rule, children = node
            numbers.append(rule)
            waiting.extend(children[::-1])
        else:
            numbers.append(node)
    return numbers
