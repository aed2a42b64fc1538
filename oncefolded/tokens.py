"""Tokens: the words, numbers and marks of lines."""

from oncefolded.diagrams import holds
from oncefolded.errors import BadToken, TooMany

MARKS = "+-*/(){};,=<>!:.?&|"
MAX_TOKENS = 24
LETTERS = "abcdefghijklmnopqrstuvwxyzABCDEFGHIJKLMNOPQRSTUVWXYZ"
DIGITS = "0123456789"


def tokens_of(text, row):
    """Return the list of the tokens of a line, or raise BadToken."""
    found = []
    column = 0
    while column < len(text):
        end = column + 1
        if text[column] != " ":
            kind = _kind_of(text[column])
            if kind == "":
                raise BadToken(row, column)
            while end < len(text) and _continues(kind, text[end]):
                end += 1
            # What stands directly in front and is no space belongs to a token.
            glued = column > 0 and text[column - 1] != " "
            found.append((kind, text[column:end], row, column, glued))
        column = end
    return found


def _kind_of(sign):
    """Return the kind of a token that begins with the sign, or the empty text."""
    if sign in LETTERS:
        return "word"
    if sign in DIGITS:
        return "number"
    return "mark" if sign in MARKS else ""


def _continues(kind, sign):
    return kind != "mark" and (sign in DIGITS or kind == "word" and sign in LETTERS)


def fold_tokens(lines):
    """Return the list of the folded tokens of folded lines."""
    found = []
    for row, (text, _, _, d) in enumerate(lines):
        found.extend([(token, d) for token in tokens_of(text, row)])
        if len(found) > MAX_TOKENS:
            raise TooMany(f"there are more than {MAX_TOKENS} tokens")
    return found


def present(folded, configuration):
    """Return the list of the indexes of the tokens that are present."""
    return [index for index, (_, d) in enumerate(folded) if holds(d, configuration)]
