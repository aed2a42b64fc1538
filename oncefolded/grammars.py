"""Grammars: rules with their parts and demands, and bars."""

from oncefolded.diagrams import is_diagram
from oncefolded.tokens import DIGITS, LETTERS, MARKS

MAX_PARTS = 3
MAX_RULES = 12
MAX_BARS = 12
MAX_DEMANDS = 4
MAX_SYMBOL = 6
MAX_TEXT = 8


def matches(part, token):
    """Tell whether the token matches the part, which is no symbol."""
    kind, told = part
    return told == (token[0] if kind == "kind" else token[1])


def rules_of(grammar, symbol):
    """Return the list of the numbers of the rules of the symbol, ascending."""
    return [number for number, rule in enumerate(grammar[1]) if rule[0] == symbol]


def barred(grammar, rule, place, below):
    """Return the diagram that holds where `below` must not stand at the place of the rule."""
    for bar in grammar[2]:
        if bar[:3] == (rule, place, below):
            return bar[3]
    return False


def demand_holds(demand, firsts):
    """Tell whether the demand holds for the first tokens of the parts."""
    word = demand[0]
    if word == "glued":
        return firsts[demand[1]][4]
    first, second = firsts[demand[1]], firsts[demand[2]]
    if word == "same":
        return first[3] == second[3]
    if word == "right":
        return first[3] < second[3]
    return first[2] == second[2]


def demands_hold(grammar, rule, firsts):
    """Tell whether all demands of a rule hold for the first tokens of the parts."""
    return all(demand_holds(demand, firsts) for demand in grammar[1][rule][3])


def is_grammar(value, count):
    """Tell whether the value is a grammar over so many switches."""
    if not isinstance(value, tuple) or len(value) != 3:
        return False
    start, rules, bars = value
    if not isinstance(rules, tuple) or not 1 <= len(rules) <= MAX_RULES:
        return False
    if not isinstance(bars, tuple) or len(bars) > MAX_BARS:
        return False
    if not all(is_rule(rule, count) for rule in rules):
        return False
    if not have_rules([start], rules) or not all(have_rules(symbols_in(rule), rules) for rule in rules):
        return False
    return _are_bars(bars, rules, count) and not derives_itself(rules)


def is_symbol(value):
    """Tell whether the value is a symbol."""
    if not isinstance(value, str) or not 1 <= len(value) <= MAX_SYMBOL:
        return False
    return value[0].isupper() and all(letter in LETTERS for letter in value)


def is_text(value):
    """Tell whether the value is the text of a word or a mark, as a part may have it."""
    if not isinstance(value, str) or not 1 <= len(value) <= MAX_TEXT:
        return False
    if value[0] in LETTERS:
        return all(sign in LETTERS or sign in DIGITS for sign in value)
    return len(value) == 1 and value in MARKS


def _is_part(value):
    if not isinstance(value, tuple) or len(value) != 2:
        return False
    kind, told = value
    if kind == "kind":
        return told in ("word", "number")
    if kind == "text":
        return is_text(told)
    return kind == "symbol" and is_symbol(told)


def is_index(value, count):
    """Tell whether the value is an integer from 0 to count - 1, not True or False."""
    return isinstance(value, int) and not isinstance(value, bool) and 0 <= value < count


def is_demand(value, count):
    """Tell whether the value is a demand of a right side with so many parts."""
    if not isinstance(value, tuple) or len(value) not in (2, 3):
        return False
    if not all(is_index(place, count) for place in value[1:]):
        return False
    if len(value) == 2:
        return value[0] == "glued"
    return value[0] in ("same", "right", "row") and value[1] != value[2]


def is_rule(value, count):
    """Tell whether the value is a rule over so many switches."""
    if not isinstance(value, tuple) or len(value) != 4:
        return False
    left, right, d, demands = value
    if not isinstance(right, tuple) or not 1 <= len(right) <= MAX_PARTS:
        return False
    if not is_symbol(left) or not all(_is_part(part) for part in right):
        return False
    if not _is_condition(d, count) or not isinstance(demands, tuple) or len(demands) > MAX_DEMANDS:
        return False
    return all(is_demand(demand, len(right)) for demand in demands) and len(set(demands)) == len(demands)


def _is_condition(value, count):
    """Tell whether the value is a diagram that is not False."""
    return value is not False and is_diagram(value, count)


def symbols_in(rule):
    """Return the list of the symbols in the right side of a rule."""
    return [told for kind, told in rule[1] if kind == "symbol"]


def have_rules(symbols, rules):
    """Tell whether each of the symbols is the left of a rule."""
    lefts = [rule[0] for rule in rules]
    return all(symbol in lefts for symbol in symbols)


def _are_bars(bars, rules, count):
    for bar in bars:
        if not isinstance(bar, tuple) or len(bar) != 4:
            return False
        if not bar_fits(bar, rules) or not _is_condition(bar[3], count):
            return False
    return all(bars[k][:3] < bars[k + 1][:3] for k in range(len(bars) - 1))


def bar_fits(bar, rules):
    """Tell whether the rule `below` of a bar could stand at its place without the bar."""
    rule, place, below, _ = bar
    if not is_index(rule, len(rules)) or not is_index(below, len(rules)):
        return False
    right = rules[rule][1]
    return is_index(place, len(right)) and right[place] == ("symbol", rules[below][0])


def derives_itself(rules):
    """Tell whether a symbol derives itself."""
    return len(ordered_symbols(rules)) < len({rule[0] for rule in rules})


def ordered_symbols(rules):
    """Return the lefts of the rules, each behind all that it derives alone. Those
    that derive themselves, or derive such a one alone, are left out."""
    lefts = sorted({rule[0] for rule in rules})
    alone = [(rule[0], rule[1][0][1]) for rule in rules if len(rule[1]) == 1 and rule[1][0][0] == "symbol"]
    order = []
    while True:
        waiting = [left for left, below in alone if below not in order]
        ready = [left for left in lefts if left not in order and left not in waiting]
        if not ready:
            return order
        order.extend(ready)
