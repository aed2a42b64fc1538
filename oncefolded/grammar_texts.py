"""Texts of grammars, and how they are read."""

from oncefolded.diagrams import diagram_of
from oncefolded.errors import BadFormula, BadGrammar
from oncefolded.formulas import read_formula
from oncefolded.grammars import (
    MAX_BARS, MAX_RULES, bar_fits, derives_itself, have_rules, is_rule, is_symbol, is_text, symbols_in)
from oncefolded.tokens import DIGITS

# The first line tells the start, so the rules begin in the second one.
FIRST_RULE_LINE = 2
MAX_DIGITS = 2


def read_grammar(switches, text):
    """Return the grammar of a text, or raise BadGrammar."""
    rows = [line.split(" ") for line in text.split("\n")]
    start = _read_start(rows[0])
    rules = []
    bars = []
    for line, words in enumerate(rows[1:], start=FIRST_RULE_LINE):
        if words[0] == "rule" and not bars:
            rules.append(_read_rule(switches, line, words))
        elif words[0] == "bar" and rules:
            bars.append(_read_bar(switches, line, words))
        else:
            raise BadGrammar(line)
        if len(rules) > MAX_RULES or len(bars) > MAX_BARS:
            raise BadGrammar(line)
    if not rules:
        raise BadGrammar(len(rows) + 1)
    _check_fit(start, rules, bars)
    return (start, tuple(rules), tuple(sorted(bars)))


def _read_start(words):
    if len(words) != 2 or words[0] != "start" or not is_symbol(words[1]):
        raise BadGrammar(1)
    return words[1]


def _read_rule(switches, line, words):
    if len(words) < 4 or words[2] != "=":
        raise BadGrammar(line)
    right = _leading_parts(words[3:])
    d, rest = _read_condition(switches, words[3 + len(right):])
    demands = [_demand_of(word) for word in rest]
    rule = (words[1], tuple(right), d, tuple(demands))
    # What is no part, no formula or no demand has become a value that no rule has.
    if not is_rule(rule, len(switches)):
        raise BadGrammar(line)
    return rule


def _leading_parts(words):
    """Return the list of the parts with which the words begin."""
    parts = []
    for word in words:
        part = _part_of(word)
        if part is None:
            break
        parts.append(part)
    return parts


def _part_of(word):
    """Return the part that is written as the word, or None."""
    if word in ("word", "number"):
        return ("kind", word)
    if is_symbol(word):
        return ("symbol", word)
    if word.startswith('"') and word.endswith('"') and is_text(word[1:-1]):
        return ("text", word[1:-1])
    return None


def _read_condition(switches, words):
    """Return the diagram of a tail, False if it has a wrong one, and its other words."""
    if not words or not words[0].startswith("{"):
        return True, words
    if not words[0].endswith("}"):
        return False, words
    try:
        return diagram_of(switches, read_formula(switches, words[0][1:-1])), words[1:]
    except BadFormula:
        return False, words


def _demand_of(word):
    """Return the demand that the word writes, with None for what is no number."""
    name, *places = word.split(":")
    return (name, *[number_of(place, MAX_DIGITS) for place in places])


def number_of(word, most):
    """Return the number of at most so many digits that the word writes, or None."""
    if not 1 <= len(word) <= most or not all(sign in DIGITS for sign in word):
        return None
    number = int(word)
    return number if str(number) == word else None


def _read_bar(switches, line, words):
    numbers = [number_of(word, MAX_DIGITS) for word in words[1:4]]
    d, rest = _read_condition(switches, words[4:])
    if len(numbers) < 3 or None in numbers or d is False or rest:
        raise BadGrammar(line)
    return (*numbers, d)


def _check_fit(start, rules, bars):
    """Raise BadGrammar unless the lines, which have the right form, make a grammar."""
    if not have_rules([start], rules):
        raise BadGrammar(1)
    for line, rule in enumerate(rules, start=FIRST_RULE_LINE):
        if not have_rules(symbols_in(rule), rules):
            raise BadGrammar(line)
    known = []
    for line, bar in enumerate(bars, start=FIRST_RULE_LINE + len(rules)):
        if not bar_fits(bar, rules) or bar[:3] in known:
            raise BadGrammar(line)
        known.append(bar[:3])
    if derives_itself(rules):
        raise BadGrammar(0)
