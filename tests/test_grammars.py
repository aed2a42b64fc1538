import copy
import random
import re
import unittest

from oncefolded.grammars import (
    MAX_PARTS, MAX_RULES, barred, demand_holds, is_grammar, matches, ordered_symbols, rules_of)
from oncefolded.tokens import MARKS
from tests.helper import all_sets, diagram_by_definition, has_ring, some_grammar

A, B, C = (0, False, True), (1, False, True), (2, True, False)
WORD, NUMBER = ("kind", "word"), ("kind", "number")
PLUS, WHEN = ("text", "+"), ("text", "if")
S, T, U = ("symbol", "S"), ("symbol", "T"), ("symbol", "U")

# Rules 0 to 4, with every kind of part and of demand.
RULES = (
    ("S", (S, PLUS, T), True, (("same", 0, 2), ("right", 0, 1), ("row", 1, 2), ("glued", 1))),
    ("S", (T,), A, ()),
    ("T", (WHEN, T), (0, B, True), (("right", 0, 1), ("same", 1, 0))),
    ("T", (WORD,), True, (("glued", 0),)),
    ("T", (NUMBER, T, S), B, ()),
)
BARS = ((0, 0, 1, A), (0, 2, 2, True), (0, 2, 3, B), (4, 2, 0, (0, True, B)))
FINE = ("S", RULES, BARS)


def put(value, path, new):
    """The value with another one at the path."""
    if not path:
        return new
    at = path[0]
    return value[:at] + (put(value[at], path[1:], new),) + value[at + 1:]


def paths_in(value, path=()):
    found = [path]
    if isinstance(value, tuple):
        for at, element in enumerate(value):
            found += paths_in(element, path + (at,))
    return found


def is_tuple(value, least, most):
    return isinstance(value, tuple) and least <= len(value) <= most


def is_text_of(pattern, value):
    return isinstance(value, str) and re.fullmatch(pattern, value) is not None


def is_grammar_by_definition(value, count):
    """The points of the document one by one, in which no True and no False is an integer."""
    diagrams = {repr(diagram_by_definition(configs, count)) for configs in all_sets(count) if configs}

    def is_part(part):
        if not is_tuple(part, 2, 2):
            return False
        patterns = {"kind": "word|number", "symbol": "[A-Z][A-Za-z]{0,5}",
                    "text": "[A-Za-z][A-Za-z0-9]{0,7}|[-+*/(){};,=<>!:.?&|]"}
        return part[0] in list(patterns) and is_text_of(patterns[part[0]], part[1])

    def is_rule(rule):
        if not is_tuple(rule, 4, 4) or not is_part(("symbol", rule[0])) or repr(rule[2]) not in diagrams:
            return False
        if not is_tuple(rule[1], 1, 3) or not all(map(is_part, rule[1])) or not is_tuple(rule[3], 0, 4):
            return False
        places = range(len(rule[1]))
        demands = {repr(("glued", p)) for p in places}
        demands |= {repr((word, p, q)) for word in ("same", "right", "row") for p in places for q in places if p != q}
        told = [repr(demand) for demand in rule[3]]
        return set(told) <= demands and len(set(told)) == len(told)

    if not is_tuple(value, 3, 3) or not is_tuple(value[1], 1, 12) or not all(map(is_rule, value[1])):
        return False
    start, rules, bars = value
    lefts = {rule[0] for rule in rules}
    symbols = [start] + [part[1] for rule in rules for part in rule[1] if part[0] == "symbol"]
    if not all(isinstance(symbol, str) and symbol in lefts for symbol in symbols) or has_ring(rules):
        return False
    if not is_tuple(bars, 0, 12) or not all(is_tuple(bar, 4, 4) and repr(bar[3]) in diagrams for bar in bars):
        return False
    possible = {repr((r, p, b)) for r, rule in enumerate(rules) for p, part in enumerate(rule[1])
                for b, below in enumerate(rules) if part == ("symbol", below[0])}
    told = [bar[:3] for bar in bars]
    return {repr(numbers) for numbers in told} <= possible and told == sorted(set(told))


def nested(depth, core=()):
    for _ in range(depth):
        core = (core,)
    return core


class MatchesTest(unittest.TestCase):
    def test_kinds(self):
        for kind, text in (("word", "x"), ("number", "12"), ("mark", "+"), ("word", "number"), ("word", "word")):
            token = (kind, text, 0, 0, False)
            self.assertIs(matches(WORD, token), kind == "word")
            self.assertIs(matches(NUMBER, token), kind == "number")

    def test_texts(self):
        for kind, text in (("word", "if"), ("word", "iff"), ("word", "If"), ("mark", "+"), ("number", "1")):
            token = (kind, text, 3, 2, True)
            self.assertIs(matches(WHEN, token), text == "if")
            self.assertIs(matches(PLUS, token), text == "+")
        self.assertIs(matches(("text", "word"), ("word", "x", 0, 0, False)), False)
        self.assertIs(matches(("text", "word"), ("word", "word", 0, 0, False)), True)


class RulesOfTest(unittest.TestCase):
    def test_numbers_of_rules(self):
        self.assertEqual(rules_of(FINE, "S"), [0, 1])
        self.assertEqual(rules_of(FINE, "T"), [2, 3, 4])
        self.assertEqual(rules_of(FINE, "U"), [])
        self.assertEqual(rules_of(FINE, "s"), [])
        mixed = ("S", (RULES[2], RULES[0], RULES[3], RULES[1], RULES[2]), ())
        self.assertEqual(rules_of(mixed, "T"), [0, 2, 4])
        self.assertEqual(rules_of(mixed, "S"), [1, 3])

    def test_each_list_is_a_new_one(self):
        rules_of(FINE, "S").clear()
        self.assertEqual(rules_of(FINE, "S"), [0, 1])


class BarredTest(unittest.TestCase):
    def test_each_place(self):
        wanted = {bar[:3]: bar[3] for bar in BARS}
        for rule in range(5):
            for place in range(3):
                for below in range(5):
                    found = barred(FINE, rule, place, below)
                    self.assertEqual(found, wanted.get((rule, place, below), False))
                    self.assertIn(type(found), (bool, tuple))

    def test_without_bars(self):
        self.assertIs(barred(("S", RULES, ()), 0, 0, 1), False)


class DemandHoldsTest(unittest.TestCase):
    FIRSTS = [("word", "a", 0, 4, False), ("mark", "+", 0, 5, True), ("word", "b", 2, 4, False),
              ("number", "1", 1, 7, True)]

    def test_each_demand(self):
        for p, (_, _, row, column, glued) in enumerate(self.FIRSTS):
            self.assertIs(demand_holds(("glued", p), self.FIRSTS), glued)
            for q, (_, _, other_row, other_column, _) in enumerate(self.FIRSTS):
                if p != q:
                    self.assertIs(demand_holds(("same", p, q), self.FIRSTS), column == other_column)
                    self.assertIs(demand_holds(("right", p, q), self.FIRSTS), other_column > column)
                    self.assertIs(demand_holds(("row", p, q), self.FIRSTS), row == other_row)

    def test_plain_ones(self):
        self.assertIs(demand_holds(("same", 0, 2), self.FIRSTS), True)
        self.assertIs(demand_holds(("same", 0, 1), self.FIRSTS), False)
        self.assertIs(demand_holds(("right", 0, 1), self.FIRSTS), True)
        self.assertIs(demand_holds(("right", 1, 0), self.FIRSTS), False)
        self.assertIs(demand_holds(("right", 0, 2), self.FIRSTS), False)
        self.assertIs(demand_holds(("row", 0, 1), self.FIRSTS), True)
        self.assertIs(demand_holds(("row", 1, 2), self.FIRSTS), False)
        self.assertIs(demand_holds(("glued", 0), self.FIRSTS), False)
        self.assertIs(demand_holds(("glued", 1), self.FIRSTS), True)


class FineTest(unittest.TestCase):
    def fine(self, value, count=2):
        self.assertIs(is_grammar(value, count), True, value)

    def test_constants(self):
        self.assertEqual((MAX_PARTS, MAX_RULES), (3, 12))

    def test_grammars(self):
        self.fine(FINE)
        self.fine(FINE, 5)
        self.fine(("T", RULES, BARS))
        self.fine(("S", RULES, ()))

    def test_one_and_twelve_rules(self):
        for d in (True, A, B, (0, True, False), (0, B, True)):
            for part in (WORD, NUMBER, PLUS, WHEN):
                self.fine(("S", (("S", (part,), d, ()),), ()))
                self.fine(("S", (("S", (part, S), d, ()),) * 12, ()))
        self.fine(("S", (("S", (WORD,), True, ()),), ()), 1)

    def test_equal_rules(self):
        self.fine(("S", (RULES[3], RULES[3]) + RULES + (RULES[0],), ()))

    def test_twelve_bars(self):
        rules = (("S", (S, S, S), True, ()),) * 2 + (("S", (WORD,), A, ()),)
        bars = tuple((r, p, b, A) for r in (0, 1) for p in (0, 1, 2) for b in (0, 2))
        self.assertEqual(len(bars), 12)
        for many in range(13):
            self.fine(("S", rules, bars[:many]))

    def test_symbols(self):
        for symbol in ("A", "Z", "Ab", "AB", "Abcdef", "ABCDEF", "Zz"):
            self.fine((symbol, ((symbol, (WORD, ("symbol", symbol)), True, ()),), ()))

    def test_texts(self):
        for text in list(MARKS) + ["a", "Z", "a1", "abcdefgh", "A1234567", "word", "number", "if", "S"]:
            self.fine(("S", (("S", (("text", text),), True, ()),), ()))

    def test_lone_symbols_without_a_ring(self):
        self.fine(("S", (("S", (T,), True, ()), ("S", (U,), True, ()), ("T", (U,), True, ()),
                         ("U", (WORD,), True, ()), ("U", (S, S), True, ()), ("U", (PLUS, S), True, ())), ()))

    def test_demands(self):
        for demands in ((), (("same", 0, 2), ("same", 2, 0)), (("right", 1, 2), ("row", 1, 2), ("same", 1, 2)),
                        (("glued", 0), ("glued", 1), ("glued", 2), ("row", 2, 1))):
            self.fine(("S", (("S", (WORD, PLUS, WORD), True, demands),), ()))

    def test_many_grammars(self):
        chooser = random.Random(4)
        for _ in range(300):
            self.fine(some_grammar(chooser, 2))


class SpoiltTest(unittest.TestCase):
    def wrong(self, value, count=2):
        # The text of a value is made for a failure alone: some are far too wide.
        if is_grammar(value, count) is not False:
            self.fail(repr(value)[:300])

    def spoilt(self, path, *values):
        self.assertIs(is_grammar(FINE, 2), True)
        for value in values:
            self.wrong(put(FINE, path, value))

    def test_values_of_other_kinds(self):
        for value in ("", "S", 0, 1, 7, True, False, (), (("S", RULES, BARS),), ("S",), ("S", RULES), RULES, BARS,
                      ("S", RULES, BARS, ()), (RULES, "S", BARS), ("S", BARS, RULES)):
            self.wrong(value)

    def test_every_element_exchanged(self):
        """In the place of each element, however deep, other values: also such that may stand there."""
        fine = 0
        values = ["", "word", "if", "Q", "S", "T", "abcdefghi", "+", 99, 0, 1, 2, 3, -1, True, False, A, (), ((), ()),
                  (0,), ("S",), S, T, WORD, PLUS, (S, T), (WORD, WORD, WORD), ("glued", 0), (("glued", 0),), BARS[1],
                  BARS[:2], BARS[1:3], RULES[1], RULES[3], RULES[1:4]]
        for path in paths_in(FINE):
            for value in values:
                changed = put(FINE, path, value)
                wanted = is_grammar_by_definition(changed, 2)
                self.assertIs(is_grammar(changed, 2), wanted, (path, value))
                fine += wanted
        self.assertGreater(fine, 100)

    def test_other_lengths(self):
        def shorter_and_longer(value):
            return value[:-1], value + (value[-1],), value[1:], value + ((),)
        for path in ((), (1, 1), (1, 1, 1, 0), (2, 0), (1, 0, 1, 0), (1, 0, 3, 0), (1, 0, 3, 3), (1, 1, 2)):
            here = FINE
            for at in path:
                here = here[at]
            self.spoilt(path, *shorter_and_longer(here))

    def test_symbols(self):
        for symbol in ("", "s", "sT", "1", "S1", "S_", "S ", " S", "Abcdefg", "ABCDEFG", "S-", "+", "\u00c9", "S\u00e9",
                       "\u0391", "S\n", True, 1, ("S",)):
            self.wrong((symbol, ((symbol, (WORD,), True, ()),), ()))
            self.wrong(("S", (("S", (WORD, ("symbol", symbol)), True, ()), (symbol, (WORD,), True, ())), ()))

    def test_texts(self):
        for text in ("", " ", "a b", " a", "abcdefghi", "A12345678", "1", "12", "1a", "++", "+-", "<=", "_", "a_", "#", "@",
                     "\"", "'", "$", "~", "^", "[", "\u00e9", "a\u00e9", "\u0661", "a+", "+a", "\n", 1, True, ("+",), ()):
            self.wrong(("S", (("S", (("text", text),), True, ()),), ()))

    def test_parts(self):
        for part in (("kind", "mark"), ("kind", "Word"), ("kind", ""), ("kind", "symbol"), ("word", "word"), ("", "S"),
                     ("kind",), ("text",), ("symbol",), ("kind", "word", "word"), ("symbol", "S", 0), "S", "word", 0, (),
                     ("Symbol", "S"), (True, "S"), (("kind", "word"),), ("kind", ("word",)), ("symbol", "word")):
            self.wrong(("S", (("S", (part,), True, ()), ("S", (WORD,), True, ())), ()))
            self.wrong(("S", (("S", (WORD, part), True, ()), ("S", (WORD,), True, ())), ()))

    def test_numbers_of_parts(self):
        self.spoilt((1, 3, 1), (), (WORD,) * 4, (WORD,) * 5, WORD, "word")

    def test_diagrams(self):
        for d in (False, 0, 1, 2, "1", "", (), (0,), (0, False), (0, False, True, True), (0, True, True),
                  (2, False, True), (-1, False, True), (True, False, True), (False, False, True), (0, 0, 1), (0, 0, True),
                  (0, False, 1), (1, A, True), (0, A, True), (1, False, (1, False, True)), C):
            self.spoilt((1, 1, 2), d)
            self.spoilt((2, 1, 3), d)
        self.assertIs(is_grammar(put(put(FINE, (1, 1, 2), C), (2, 1, 3), C), 3), True)
        self.wrong(FINE, 1)

    def test_places_of_demands(self):
        for word in ("same", "right", "row"):
            for p, q in ((0, 3), (3, 0), (0, 0), (1, 1), (2, 2), (-1, 0), (0, -1), (5, 6), (True, 0), (0, True),
                         (False, 1), (1, False), ("0", 1), ((0,), 1), (1, ())):
                self.spoilt((1, 0, 3), ((word, p, q),))
        for p in (3, 4, -1, True, False, "0", (), (0,)):
            self.spoilt((1, 0, 3), (("glued", p),))
        self.spoilt((1, 3, 3), (("glued", 1),), (("same", 0, 1),), (("row", 0, 0),))

    def test_demands_of_another_form(self):
        self.spoilt((1, 0, 3), ("same", 0, 1), (("same",),), (("same", 0),), (("same", 0, 1, 2),), (("glued",),),
                    (("glued", 0, 1),), (("left", 0, 1),), (("Same", 0, 1),), ((0, 1),), ((0, 1, 2),), ("glued",),
                    ((),), (((),),), (0,), True, False, 0, "", (("", 0, 1),), ((True, 0, 1),), ((("same",), 0, 1),))

    def test_demands_that_are_too_many_or_equal(self):
        four = (("same", 0, 2), ("right", 0, 1), ("row", 1, 2), ("glued", 1))
        self.spoilt((1, 0, 3), four + (("glued", 2),), four[:1] * 2, four[:3] + four[:1], four[3:] * 2)

    def test_numbers_of_rules(self):
        self.spoilt((1,), ())
        self.wrong(("S", (("S", (WORD,), True, ()),) * 13, ()))
        self.wrong(("S", RULES * 3, ()))

    def test_rules_that_are_none(self):
        self.spoilt((1, 4), (), "S", 0, True, RULES, ("T", (NUMBER, T, S), B), ("T", (NUMBER, T, S), (), B))

    def test_numbers_of_bars(self):
        rules = (("S", (S, S, S), True, ()),) * 2 + (("S", (WORD,), A, ()),) * 2
        bars = tuple((r, p, b, A) for r in (0, 1) for p in (0, 1, 2) for b in range(4))
        self.assertIs(is_grammar(("S", rules, bars[3:15]), 2), True)
        self.wrong(("S", rules, bars[3:16]))
        self.wrong(("S", rules, bars))

    def test_the_order_of_bars(self):
        self.spoilt((2,), BARS[::-1], BARS[1:] + BARS[:1], BARS[:1] * 2, BARS[:1] + BARS[:2],
                    (BARS[0], (0, 0, 1, True)), (BARS[2], BARS[1]), ((0, 0, 1, B), (0, 0, 1, A)),
                    ((0, 0, 1, A), (0, 0, 1, B)))

    def test_bars_that_fit_no_rule(self):
        for bar in ((0, 1, 1), (2, 0, 2), (3, 0, 3), (4, 0, 0), (0, 0, 2), (0, 2, 0), (1, 0, 0), (1, 0, 1), (4, 1, 1),
                    (4, 2, 4), (0, 3, 2), (1, 1, 2), (0, -1, 2), (0, -3, 0), (5, 0, 0), (-1, 0, 2), (-5, 0, 0), (0, 0, 5),
                    (0, 0, -4), (99, 99, 99)):
            self.wrong(("S", RULES, (bar + (True,),)))

    def test_truths_in_the_place_of_integers_of_a_bar(self):
        self.assertIs(is_grammar(("S", RULES, ((0, 0, 1, True), (1, 0, 3, True))), 2), True)
        for bar in ((False, 0, 1), (0, False, 1), (0, 0, True), (True, 0, 3), (1, False, 3), ("0", 0, 1), (0, (), 1),
                    (0, 0, (1,))):
            self.wrong(("S", RULES, (bar + (True,),)))

    def test_bars_of_another_form(self):
        self.spoilt((2,), ((0, 0, 1),), ((0, 0, 1, A, A),), (0, 0, 1, A), ((),), ("bar",), (0,), 0, "", True,
                    ((0, 0, 1, False),), ((0, 0, 1, 1),), ((A, 0, 0, 1),))

    def test_a_start_or_a_symbol_without_rules(self):
        self.spoilt((0,), "U", "Sum", "s")
        self.wrong(("T", RULES[:2], ()))
        self.wrong(("S", RULES[:2], ()))
        self.wrong(("S", (RULES[3], ("S", (WORD, WORD, U), True, ())), ()))
        self.wrong(("S", (("S", (WORD,), True, ()), ("T", (U,), A, ())), ()))

    def test_rings(self):
        word = (("S", (WORD,), True, ()), ("T", (WORD,), True, ()), ("U", (WORD,), True, ()))
        self.assertIs(is_grammar(("S", word, ()), 2), True)
        for steps in ("SS", "TT", "STS", "TUT", "STUS", "SUTS"):
            ring = tuple((left, (("symbol", below),), A, ()) for left, below in zip(steps, steps[1:]))
            self.wrong(("S", word + ring, ()))
            self.wrong(("S", ring + word, ()))
            self.assertIs(is_grammar(("S", word + ring[1:], ()), 2), True)
        self.wrong(("S", (("S", (T,), A, ()), ("T", (S,), (0, True, False), ())) + word, ()))

    def test_deep_values(self):
        deep = nested(590)
        diagram = True
        for k in range(590):
            diagram = (590 - k, False, diagram)
        for value in (nested(600), nested(599, "S"), nested(599, FINE)):
            self.wrong(value)
        for path in ((), (0,), (1,), (1, 0), (1, 0, 0), (1, 0, 1), (1, 0, 1, 0), (1, 0, 1, 0, 0), (1, 0, 1, 0, 1),
                     (1, 0, 2), (1, 0, 3), (1, 0, 3, 0), (1, 0, 3, 0, 0), (1, 0, 3, 0, 1), (1, 3, 1, 0, 1), (1, 0, 1, 1, 1),
                     (2,), (2, 0), (2, 0, 0), (2, 0, 1), (2, 0, 2), (2, 0, 3), (2, 1, 0), (1, 1, 2, 2)):
            self.spoilt(path, deep, diagram)
        wide = ()
        for _ in range(590):
            wide = (wide, wide, wide)
        self.spoilt((1, 0, 2), wide)
        self.spoilt((2, 0), wide)


class OrderTest(unittest.TestCase):
    def test_each_symbol_is_behind_those_that_it_derives_alone(self):
        chooser = random.Random(9)
        for _ in range(200):
            _, rules, _ = some_grammar(chooser, 1)
            order = ordered_symbols(rules)
            self.assertEqual(sorted(order), sorted({rule[0] for rule in rules}))
            for left, right, _, _ in rules:
                if len(right) == 1 and right[0][0] == "symbol":
                    self.assertLess(order.index(right[0][1]), order.index(left))


class UnchangedTest(unittest.TestCase):
    def test_no_function_changes_what_it_was_given(self):
        firsts = [("word", "x", 0, 0, False), ("word", "y", 0, 2, True)]
        given = [FINE, firsts]
        kept = copy.deepcopy(given)
        is_grammar(FINE, 2)
        rules_of(FINE, "S")
        barred(FINE, 0, 0, 1)
        matches(WORD, firsts[0])
        for demand in (("same", 0, 1), ("right", 0, 1), ("row", 0, 1), ("glued", 1)):
            demand_holds(demand, firsts)
        self.assertEqual(given, kept)


if __name__ == "__main__":
    unittest.main()
