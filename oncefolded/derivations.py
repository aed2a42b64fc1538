"""Derivations: what a text means in one configuration, worked out plainly."""

from oncefolded.diagrams import holds
from oncefolded.grammars import barred, demand_holds, matches, ordered_symbols, rules_of
from oncefolded.packed import count_packed, list_packed, without_bars
from oncefolded.tokens import present

# Trees may be deeper than calls should be nested: what is still to be looked at
# is kept in lists.


def tokens_in(tree):
    """Return the list of the indexes in a tree, from left to right."""
    found = []
    waiting = [tree]
    while waiting:
        node = waiting.pop()
        if isinstance(node, tuple):
            waiting.extend(node[1][::-1])
        else:
            found.append(node)
    return found


def is_derivation(grammar, folded, configuration, value):
    """Tell whether the value is a derivation in the configuration."""
    expected = present(folded, configuration)
    found = 0
    waiting = [(("symbol", grammar[0]), value)]
    while waiting:
        part, node = waiting.pop()
        if part[0] == "symbol":
            if not _is_top(grammar, configuration, part[1], node):
                return False
            rule, children = node
            waiting.extend(list(zip(grammar[1][rule][1], children))[::-1])
        else:
            # Looking at each token at once ends the walk early: a small value may
            # have the same parts again and again, far more often than there are tokens.
            if found == len(expected) or not _is_integer(node) or node != expected[found]:
                return False
            if not matches(part, folded[node][0]):
                return False
            found += 1
    return found == len(expected)


def _is_integer(value):
    return isinstance(value, int) and not isinstance(value, bool)


def _is_top(grammar, configuration, symbol, value):
    """Tell whether the value has, at its top, a rule of the symbol and its children."""
    if not isinstance(value, tuple) or len(value) != 2:
        return False
    rule, children = value
    if not _is_integer(rule) or rule not in rules_of(grammar, symbol):
        return False
    _, right, d, _ = grammar[1][rule]
    return holds(d, configuration) and isinstance(children, tuple) and len(children) == len(right)


def count_derivations(grammar, folded, configuration):
    """Return the number of the derivations."""
    row = present(folded, configuration)
    if not row:
        return 0
    packed = _packed(grammar, folded, configuration)
    return count_packed(without_bars(grammar), packed, _span_of(grammar[0], row), configuration)


def derivations(grammar, folded, configuration):
    """Return the ascending list of all derivations, or raise TooMany."""
    row = present(folded, configuration)
    if not row:
        return []
    packed = _packed(grammar, folded, configuration)
    return list_packed(without_bars(grammar), packed, _span_of(grammar[0], row), configuration)


def _span_of(symbol, row):
    return (symbol, row[0], row[-1] + 1)


def _packed(grammar, folded, configuration):
    """Return all trees over neighbouring present tokens, packed. As they are those of
    one configuration, each diagram is True."""
    row = present(folded, configuration)
    order = ordered_symbols(grammar[1])
    packed = {}
    for size in range(1, len(row) + 1):
        for begin in range(len(row) - size + 1):
            piece = row[begin:begin + size]
            for symbol in order:
                found = _alternatives(grammar, folded, configuration, packed, symbol, piece)
                if found:
                    packed[_span_of(symbol, piece)] = found
    return packed


def _alternatives(grammar, folded, configuration, packed, symbol, piece):
    found = []
    for rule in rules_of(grammar, symbol):
        _, right, d, _ = grammar[1][rule]
        if holds(d, configuration):
            found.extend([(rule, ends, True) for ends in _cuts(piece, len(right))
                          if _derive(folded, packed, right, ends)])
    return found


def _cuts(piece, many):
    """Return the ways to cut a list of indexes into so many, as tuples of pairs: the
    first index of each, and the number behind its last one."""
    if many == 1:
        return [((piece[0], piece[-1] + 1),)]
    return [((piece[0], piece[cut - 1] + 1), *rest)
            for cut in range(1, len(piece)) for rest in _cuts(piece[cut:], many - 1)]


def _derive(folded, packed, right, ends):
    """Tell whether each part of a right side derives what stands between its ends."""
    for (kind, told), (b, e) in zip(right, ends):
        if kind == "symbol":
            if (told, b, e) not in packed:
                return False
        elif e != b + 1 or not matches((kind, told), folded[b][0]):
            return False
    return True


def reasons(grammar, folded, configuration, tree):
    """Return the ascending list of all reasons against a derivation."""
    found = []
    waiting = [((), tree)]
    while waiting:
        path, (rule, children) = waiting.pop()
        firsts = [folded[_first_index(child)][0] for child in children]
        for number, demand in enumerate(grammar[1][rule][3]):
            if not demand_holds(demand, firsts):
                found.append(("demand", path, number))
        for place, child in enumerate(children):
            if isinstance(child, tuple):
                waiting.append((path + (place,), child))
                if holds(barred(grammar, rule, place, child[0]), configuration):
                    found.append(("bar", path, place))
    return sorted(found)


def _first_index(child):
    while isinstance(child, tuple):
        child = child[1][0]
    return child


def is_allowed(grammar, folded, configuration, tree):
    """Tell whether there is no reason against a derivation."""
    return not reasons(grammar, folded, configuration, tree)
