"""Switches, their configurations, and formulas over them."""

from oncefolded.errors import BadFormula

MAX_SWITCHES = 5
MAX_NAME = 6
MAX_TEXT = 60
SMALL_LETTERS = "abcdefghijklmnopqrstuvwxyz"

# Stands behind the last sign of a text, so that there always is a next sign.
_END = ""


def is_switches(value):
    """Tell whether the value is an ascending tuple of 1 to 5 names."""
    if not isinstance(value, tuple) or not 1 <= len(value) <= MAX_SWITCHES:
        return False
    if not all(_is_name(name) for name in value):
        return False
    return all(value[k] < value[k + 1] for k in range(len(value) - 1))


def _is_name(value):
    if not isinstance(value, str) or not 1 <= len(value) <= MAX_NAME:
        return False
    return all(letter in SMALL_LETTERS for letter in value)


def configurations(count):
    """Return the list of all configurations of so many switches, ascending."""
    found = [()]
    for _ in range(count):
        found = [begun + (bit,) for begun in found for bit in (0, 1)]
    return found


def read_formula(switches, text):
    """Return the formula of a text, or raise BadFormula."""
    if len(text) > MAX_TEXT:
        raise BadFormula(f"the text has more than {MAX_TEXT} characters")
    signs = _signs_of(text)
    formula, at = _read_either(switches, signs, 0)
    if signs[at] != _END:
        raise BadFormula(f"{signs[at]} continues no formula")
    return formula


def _signs_of(text):
    """Return the names and the single other signs of a text, without spaces."""
    signs = []
    begin = 0
    while begin < len(text):
        end = begin + 1
        if text[begin] in SMALL_LETTERS:
            while end < len(text) and text[end] in SMALL_LETTERS:
                end += 1
        if text[begin] != " ":
            signs.append(text[begin:end])
        begin = end
    return signs + [_END]


# Each of the next three reads from the sign with the index `at` on, and returns
# a formula and the index of the sign behind it.


def _read_either(switches, signs, at):
    formula, at = _read_both(switches, signs, at)
    while signs[at] == "|":
        second, at = _read_both(switches, signs, at + 1)
        formula = ("or", formula, second)
    return formula, at


def _read_both(switches, signs, at):
    formula, at = _read_part(switches, signs, at)
    while signs[at] == "&":
        second, at = _read_part(switches, signs, at + 1)
        formula = ("and", formula, second)
    return formula, at


def _read_part(switches, signs, at):
    sign = signs[at]
    if sign == "!":
        formula, at = _read_part(switches, signs, at + 1)
        return ("not", formula), at
    if sign == "(":
        formula, at = _read_either(switches, signs, at + 1)
        if signs[at] != ")":
            raise BadFormula("a parenthesis is not closed")
        return formula, at + 1
    return _read_single(switches, sign), at + 1


def _read_single(switches, sign):
    if sign == "0":
        return ("no",)
    if sign == "1":
        return ("yes",)
    if sign in switches:
        return ("switch", sign)
    if sign == _END:
        raise BadFormula("the text ends where a part is missing")
    raise BadFormula(f"{sign} begins no part and is no switch")


def is_true(switches, formula, configuration):
    """Tell whether the formula is true in the configuration."""
    # A formula may be deeper than calls can be nested, so the truths that are
    # still to be joined are kept in a list.
    truths = []
    for part in reversed(_formulas_in(formula)):
        word = part[0]
        if word == "switch":
            truths.append(configuration[switches.index(part[1])] == 1)
        elif word == "not":
            truths.append(not truths.pop())
        elif word in ("and", "or"):
            second = truths.pop()
            first = truths.pop()
            truths.append((first and second) if word == "and" else (first or second))
        else:
            truths.append(word == "yes")
    return truths[0]


def _formulas_in(formula):
    """Return the formula and all formulas inside it, each ahead of its parts."""
    found = []
    waiting = [formula]
    while waiting:
        part = waiting.pop()
        found.append(part)
        if part[0] != "switch":
            waiting.extend(part[1:])
    return found
