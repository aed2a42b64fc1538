"""Items: rules of which the first parts have been found, and how they are made."""

from oncefolded.diagrams import both, negated
from oncefolded.grammars import barred, demands_hold, is_index, matches


def ways(grammar, folded, items, item):
    """Return the list of the ways of an item from the given items, as tuples
    (earlier, lower, condition)."""
    rule, begins, _ = item
    if is_whole(grammar, item) and not demands_hold(grammar, rule, [folded[b][0] for b in begins]):
        return []
    # An item that is given twice is one item.
    given = {other: True for other in items}
    found = []
    for earlier, gap in _earlier(grammar, folded, given, item):
        for lower, condition in _lower(grammar, folded, given, item):
            d = both(gap, condition)
            if d is not False:
                found.append((earlier, lower, d))
    return found


def _earlier(grammar, folded, given, item):
    """Return the list of the pairs of an earlier item and the condition that it adds;
    for an item with one part, that of no item and the diagram of the rule."""
    rule, begins, _ = item
    if len(begins) == 1:
        return [(None, grammar[1][rule][2])]
    return [(other, absent(folded, other[2], begins[-1])) for other in given
            if other[:2] == (rule, begins[:-1]) and other[2] <= begins[-1]]


def _lower(grammar, folded, given, item):
    """Return the list of the pairs of a lower item and the condition that it adds;
    for a part that is no symbol, at most that of no item and the presence of the token."""
    rule, begins, end = item
    place, b = len(begins) - 1, begins[-1]
    part = grammar[1][rule][1][place]
    if part[0] != "symbol":
        token, presence = folded[b]
        return [(None, presence)] if end == b + 1 and matches(part, token) else []
    return [(other, negated(barred(grammar, rule, place, other[0]))) for other in given
            if is_whole(grammar, other) and grammar[1][other[0]][0] == part[1]
            and other[1][0] == b and other[2] == end]


def absent(folded, begin, end):
    """Return the diagram that holds where all tokens from begin to end - 1 are absent."""
    found = True
    for _, d in folded[begin:end]:
        found = both(found, negated(d))
    return found


def covers(folded, item):
    """Return the diagram that holds where a whole item covers the text."""
    _, begins, end = item
    return both(absent(folded, 0, begins[0]), absent(folded, end, len(folded)))


def is_whole(grammar, item):
    """Tell whether an item has all parts of its rule."""
    rule, begins, _ = item
    return len(begins) == len(grammar[1][rule][1])


def is_item(grammar, many, value):
    """Tell whether the value is an item over so many folded tokens."""
    if not isinstance(value, tuple) or len(value) != 3:
        return False
    rule, begins, end = value
    if not is_index(rule, len(grammar[1])) or not isinstance(begins, tuple):
        return False
    if not 1 <= len(begins) <= len(grammar[1][rule][1]):
        return False
    if not all(is_index(b, many) for b in begins) or not is_index(end, many + 1):
        return False
    places = (*begins, end)
    return all(places[k] < places[k + 1] for k in range(len(begins)))
