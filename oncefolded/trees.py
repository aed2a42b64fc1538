"""Trees: what a forest holds in one configuration."""

from oncefolded.packed import count_packed, list_packed, without_bars
from oncefolded.tokens import present


def whole_span(grammar, folded, configuration):
    """Return the whole span of a configuration, or None if no token is present."""
    indexes = present(folded, configuration)
    if not indexes:
        return None
    return (grammar[0], indexes[0], indexes[-1] + 1)


def count_trees(grammar, forest, span, configuration):
    """Return the number of the trees of a span."""
    return count_packed(without_bars(grammar), forest, span, configuration)


def trees_of(grammar, forest, span, configuration):
    """Return the ascending list of the trees of a span, or raise TooMany."""
    return list_packed(without_bars(grammar), forest, span, configuration)


def trees_at(grammar, folded, forest, configuration):
    """Return the ascending list of the trees of a configuration, or raise TooMany."""
    span = whole_span(grammar, folded, configuration)
    return trees_of(grammar, forest, span, configuration) if span is not None else []
