import copy
import random
import time
import unittest
from math import comb

from oncefolded.alive import alive_forest, alive_trees, allowed_below, count_alive
from oncefolded.derivations import count_derivations
from oncefolded.diagrams import is_diagram
from oncefolded.errors import TooMany
from oncefolded.forests import make_forest
from oncefolded.grammar_texts import read_grammar
from oncefolded.trees import trees_at, whole_span
from tests.helper import (
    alive_by_definition, alive_trees_by_definition, all_configurations, all_ends, diagram_where, fits, folded_words,
    is_in, reasons_by_definition, some_cases, some_diagram, texts_trees_by_definition)

AB = ("a", "b")
A, B = (0, False, True), (1, False, True)
NOT_A, NOT_B = (0, True, False), (1, True, False)
A_OR_B, A_OR_NOT_B = (0, B, True), (0, NOT_B, True)
PAIRS = "start S\nrule S = S S\nrule S = word"


def words(many, *diagrams):
    return folded_words("w " * many, *diagrams)


def alive_of(grammar, folded):
    return alive_forest(grammar, folded, make_forest(grammar, folded))


class AliveCase(unittest.TestCase):
    def check(self, grammar, folded, count=2):
        """The alive forest is that of the definition, and has the form that is promised."""
        forest = make_forest(grammar, folded)
        alive = alive_forest(grammar, folded, forest)
        self.assertIs(type(alive), dict)
        self.assertEqual(alive, alive_by_definition(grammar, folded, count), (grammar, folded))
        for (symbol, i, j), alternatives in alive.items():
            self.assertTrue(0 <= i < j <= len(folded))
            self.assertIs(type(alternatives), tuple)
            self.assertGreater(len(alternatives), 0)
            told = [(rule, ends) for rule, ends, _ in alternatives]
            self.assertEqual(told, sorted(set(told)))
            self.assertLessEqual(set(told), {(rule, ends) for rule, ends, _ in forest[symbol, i, j]})
            for rule, ends, d in alternatives:
                self.assertEqual(grammar[1][rule][0], symbol)
                self.assertIn(ends, all_ends(len(grammar[1][rule][1]), i, j))
                for part, (b, e) in zip(grammar[1][rule][1], ends):
                    if part[0] != "symbol":
                        self.assertTrue(e == b + 1 and fits(part, folded[b][0]))
                self.assertTrue(is_diagram(d, count) and d is not False)
        return alive


class AliveForestTest(AliveCase):
    def test_no_tokens(self):
        self.assertEqual(alive_of(read_grammar(AB, PAIRS), []), {})

    def test_without_bars_and_demands_it_is_the_forest(self):
        grammar = read_grammar(AB, PAIRS)
        for folded in (words(1), words(4), words(4, A, B, True, NOT_A), folded_words("w 1 w"), words(2, False)):
            forest = make_forest(grammar, folded)
            self.assertEqual(alive_forest(grammar, folded, forest), forest)

    def test_many_grammars_and_texts(self):
        fewer = 0
        for grammar, folded in some_cases(901, 600):
            fewer += self.check(grammar, folded) != make_forest(grammar, folded)
        self.assertGreater(fewer, 300)

    def test_larger_texts(self):
        for grammar, folded in some_cases(902, 25, 6):
            if max(count_derivations(grammar, folded, config) for config in all_configurations(2)) < 100:
                self.check(grammar, folded)

    def test_a_bar_everywhere(self):
        alive = self.check(read_grammar(AB, PAIRS + "\nbar 0 1 0"), words(4))
        self.assertEqual(alive["S", 0, 4], ((0, ((0, 3), (3, 4)), True),))
        alive = self.check(read_grammar(AB, PAIRS + "\nbar 0 0 0\nbar 0 1 0"), words(3))
        self.assertNotIn(("S", 0, 3), alive)
        self.assertIn(("S", 0, 2), alive)

    def test_a_bar_in_some_configurations(self):
        alive = self.check(read_grammar(AB, PAIRS + "\nbar 0 0 0 {a|b}"), words(3))
        self.assertEqual(alive["S", 0, 3], (
            (0, ((0, 1), (1, 3)), True), (0, ((0, 2), (2, 3)), diagram_where(lambda c: c == (0, 0), 2))))
        alive = self.check(read_grammar(AB, PAIRS + "\nbar 0 0 0 {a}\nbar 0 1 0 {b}"), words(3))
        self.assertEqual(alive["S", 0, 3], ((0, ((0, 1), (1, 3)), NOT_B), (0, ((0, 2), (2, 3)), NOT_A)))

    def test_a_bar_does_not_touch_another_place_or_rule(self):
        text = "start S\nrule S = T T\nrule S = T + T".replace("+", '"+"') + "\nrule T = word\nrule T = word word"
        free = alive_of(read_grammar(AB, text), words(4))
        self.assertEqual([ends for _, ends, _ in free["S", 0, 3]], [((0, 1), (1, 3)), ((0, 2), (2, 3))])
        alive = self.check(read_grammar(AB, text + "\nbar 0 0 3"), words(4))
        self.assertEqual([ends for _, ends, _ in alive["S", 0, 3]], [((0, 1), (1, 3))])
        alive = self.check(read_grammar(AB, text + "\nbar 0 1 3"), words(4))
        self.assertEqual([ends for _, ends, _ in alive["S", 0, 3]], [((0, 2), (2, 3))])
        for text_of_words in ("w w + w", "w + w w"):
            folded = folded_words(text_of_words)
            self.assertEqual(len(alive_of(read_grammar(AB, text + "\nbar 0 0 3\nbar 0 1 3"), folded)["S", 0, 4]), 1)

    def test_a_reason_deep_inside(self):
        text = "start S\nrule S = A\nrule A = B\nrule B = C\nrule C = D word\nrule D = word\nrule D = word"
        folded = words(2)
        alive = self.check(read_grammar(AB, text + "\nbar 3 0 4"), folded)
        self.assertEqual(alive["S", 0, 2], ((0, ((0, 2),), True),))
        self.assertEqual(alive["D", 0, 1], ((4, ((0, 1),), True), (5, ((0, 1),), True)))
        alive = self.check(read_grammar(AB, text + "\nbar 3 0 4\nbar 3 0 5"), folded)
        self.assertEqual(sorted(alive), [("D", 0, 1), ("D", 1, 2)])
        alive = self.check(read_grammar(AB, text.replace("D word", "D word same:0:1")), folded)
        self.assertEqual(sorted(alive), [("D", 0, 1), ("D", 1, 2)])

    def test_a_bar_of_the_rule_above_is_no_reason_inside(self):
        # What must not stand at one place is alive in its own span.
        alive = self.check(read_grammar(AB, PAIRS + "\nbar 0 0 1"), words(2))
        self.assertEqual(alive, {("S", 0, 1): ((1, ((0, 1),), True),), ("S", 1, 2): ((1, ((1, 2),), True),)})

    def test_each_demand(self):
        tokens = [("word", "w", 0, 0, False), ("word", "w", 0, 1, True), ("word", "w", 1, 1, False)]
        for demand, pairs in (("same:0:1", [(1, 2)]), ("right:0:1", [(0, 1), (0, 2)]), ("right:1:0", []),
                              ("row:0:1", [(0, 1)]), ("row:1:0", [(0, 1)]), ("glued:1", [(0, 1)]),
                              ("glued:0", [(1, 2)])):
            grammar = read_grammar(AB, f"start S\nrule S = T T {demand}\nrule T = word")
            # Each token stands under a condition, so that each two may be neighbours.
            folded = list(zip(tokens, (A_OR_B, A, B)))
            alive = self.check(grammar, folded)
            self.assertEqual([(i, j - 1) for symbol, i, j in sorted(alive) if symbol == "S"], pairs, demand)

    def test_several_demands(self):
        tokens = [("word", "w", 0, 0, False), ("word", "w", 0, 1, True)]
        for demands, wanted in (("row:0:1 glued:1", 1), ("row:0:1 glued:0", 0), ("same:0:1 row:0:1", 0)):
            grammar = read_grammar(AB, f"start S\nrule S = T T {demands}\nrule T = word")
            alive = self.check(grammar, [(token, True) for token in tokens])
            self.assertEqual(("S", 0, 2) in alive, wanted == 1)

    def test_alive_in_some_of_its_configurations(self):
        grammar = read_grammar(AB, "start S\nrule S = T T\nrule T = word {a}\nrule T = word\nbar 0 1 2 {b}\nbar 0 1 1 {!b}")
        alive = self.check(grammar, words(2))
        self.assertEqual(alive["S", 0, 2], ((0, ((0, 1), (1, 2)), A_OR_NOT_B),))
        self.assertEqual(make_forest(grammar, words(2))["S", 0, 2], ((0, ((0, 1), (1, 2)), True),))


class AllowedBelowTest(unittest.TestCase):
    GRAMMAR = read_grammar(AB, "start S\nrule S = T T\nrule T = word\nrule T = number\nrule T = word word\n"
                               "bar 0 0 1 {a}\nbar 0 0 2\nbar 0 1 3 {a&b}")

    def check(self, rule, place, alternatives):
        wanted = diagram_where(lambda c: any(
            is_in(d, c) and not any(bar[:3] == (rule, place, below) and is_in(bar[3], c) for bar in self.GRAMMAR[2])
            for below, _, d in alternatives), 2)
        found = allowed_below(self.GRAMMAR, rule, place, alternatives)
        self.assertEqual(found, wanted)
        self.assertTrue(is_diagram(found, 2))

    def test_plain_ones(self):
        ends = ((0, 1),)
        self.assertIs(allowed_below(self.GRAMMAR, 0, 0, ()), False)
        self.assertEqual(allowed_below(self.GRAMMAR, 0, 0, ((1, ends, True),)), NOT_A)
        self.assertEqual(allowed_below(self.GRAMMAR, 0, 0, ((1, ends, A),)), False)
        self.assertEqual(allowed_below(self.GRAMMAR, 0, 0, ((2, ends, True),)), False)
        self.assertEqual(allowed_below(self.GRAMMAR, 0, 0, ((3, ends, B),)), B)
        self.assertEqual(allowed_below(self.GRAMMAR, 0, 1, ((1, ends, A),)), A)
        self.assertEqual(allowed_below(self.GRAMMAR, 0, 1, ((2, ends, True),)), True)
        self.assertEqual(allowed_below(self.GRAMMAR, 0, 0, ((1, ends, True), (2, ends, True), (3, ends, A))), True)
        self.assertEqual(allowed_below(self.GRAMMAR, 1, 0, ((1, ends, B),)), B)

    def test_many(self):
        chooser = random.Random(91)
        for _ in range(400):
            alternatives = tuple((chooser.randint(1, 3), ((0, 1),), some_diagram(chooser, 2))
                                 for _ in range(chooser.randrange(5)))
            self.check(0, chooser.randrange(2), alternatives)


class CountAliveTest(unittest.TestCase):
    def test_many_grammars_and_texts(self):
        for grammar, folded in some_cases(903, 400):
            forest = make_forest(grammar, folded)
            alive = alive_forest(grammar, folded, forest)
            for config in all_configurations(2):
                trees = alive_trees_by_definition(grammar, folded, config)
                for symbol in {rule[0] for rule in grammar[1]}:
                    for i in range(len(folded)):
                        for j in range(i + 1, len(folded) + 1):
                            many = count_alive(grammar, alive, (symbol, i, j), config)
                            self.assertEqual(many, len(trees.get((symbol, i, j), [])))

    def test_spans_that_are_not_there(self):
        grammar = read_grammar(AB, PAIRS)
        for span in (("S", 1, 2), ("T", 0, 1), ("S", 0, 2), ("S", 20, 24), ("Word", 0, 1)):
            self.assertEqual(count_alive(grammar, alive_of(grammar, folded_words("w 1")), span, (0, 0)), 0)
            self.assertEqual(count_alive(grammar, {}, span, (1, 1)), 0)

    def test_very_many(self):
        for bar, wanted in (("", lambda n: comb(2 * n - 2, n - 1) // n), ("\nbar 0 1 0", lambda n: 1),
                            ("\nbar 0 0 0\nbar 0 1 0", lambda n: 1 if n < 3 else 0),
                            # Without the bar where b is not: the number of all trees.
                            ("\nbar 0 1 0 {b}", lambda n: comb(2 * n - 2, n - 1) // n)):
            grammar = read_grammar(AB, PAIRS + bar)
            alive = alive_of(grammar, words(24))
            for n in (1, 2, 3, 10, 24):
                self.assertEqual(count_alive(grammar, alive, ("S", 0, n), (1, 0)), wanted(n))

    def test_where_a_bar_leaves_few_of_very_many(self):
        # Each run of the middle part may be cut off in all ways, but only in one place.
        grammar = read_grammar(AB, "start S\nrule S = P P\nrule P = P P\nrule P = word\nbar 0 0 1 {a}\nbar 0 1 1 {b}")
        alive = alive_of(grammar, words(20))
        trees = [comb(2 * n - 2, n - 1) // n if n else 0 for n in range(21)]
        span = ("S", 0, 20)
        self.assertEqual(count_alive(grammar, alive, span, (0, 0)), sum(trees[k] * trees[20 - k] for k in range(1, 20)))
        self.assertEqual(count_alive(grammar, alive, span, (1, 0)), trees[19])
        self.assertEqual(count_alive(grammar, alive, span, (0, 1)), trees[19])
        self.assertEqual(count_alive(grammar, alive, span, (1, 1)), 0)


class AliveTreesTest(unittest.TestCase):
    def test_many_grammars_and_texts(self):
        some = 0
        for grammar, folded in some_cases(904, 600):
            alive = alive_of(grammar, folded)
            for config in all_configurations(2):
                wanted = texts_trees_by_definition(grammar, folded, config)
                found = alive_trees(grammar, folded, alive, config)
                self.assertIs(type(found), list)
                self.assertEqual(found, wanted)
                some += len(wanted)
        self.assertGreater(some, 500)

    def test_no_tokens_and_no_present_token(self):
        grammar = read_grammar(AB, PAIRS)
        for folded in ([], words(2, A, A), words(1, False)):
            self.assertEqual(alive_trees(grammar, folded, alive_of(grammar, folded), (0, 1)), [])

    def test_three_hundred_and_more(self):
        lines = ["start S"] + ["rule S = A S"] * 2 + ["rule S = A"] * 5 + ["rule A = word", "rule A = word word"]
        grammar = read_grammar(AB, "\n".join(lines))
        found = alive_trees(grammar, words(5), alive_of(grammar, words(5)), (0, 0))
        self.assertEqual(len(found), 300)
        self.assertEqual(found, texts_trees_by_definition(grammar, words(5), (0, 0)))
        grammar = read_grammar(AB, "start S\nrule S = A S\nrule S = A\nrule A = word" + "\nrule A = word word" * 5)
        alive = alive_of(grammar, words(6))
        self.assertEqual(count_alive(grammar, alive, ("S", 0, 6), (1, 0)), 301)
        self.assertRaises(TooMany, alive_trees, grammar, words(6), alive, (1, 0))

    def test_more_than_three_hundred_derivations_of_which_few_are_allowed(self):
        lines = ["start S"] + ["rule S = A S"] * 2 + ["rule S = A"] * 5 + ["rule A = word", "rule A = word word"]
        # One more word, and a bar where a is: rule 0 must not stand below rule 0 or 1.
        grammar = read_grammar(AB, "\n".join(lines + ["bar 0 1 0 {a}", "bar 1 1 0 {a}"]))
        folded = words(6)
        alive = alive_of(grammar, folded)
        self.assertRaises(TooMany, alive_trees, grammar, folded, alive, (0, 0))
        wanted = texts_trees_by_definition(grammar, folded, (1, 0))
        self.assertLess(len(wanted), 300)
        self.assertGreater(count_derivations(grammar, folded, (1, 0)), 300)
        self.assertEqual(alive_trees(grammar, folded, alive, (1, 0)), wanted)

    def test_exactly_three_hundred_are_left(self):
        lines = ["start S"] + ["rule S = A S"] * 2 + ["rule S = A"] * 6 + ["rule A = word", "rule A = word word"]
        folded = words(5)
        free = read_grammar(AB, "\n".join(lines))
        self.assertGreater(count_derivations(free, folded, (0, 0)), 300)
        grammar = read_grammar(AB, "\n".join(lines + ["bar 0 1 7", "bar 1 1 7"]))
        wanted = texts_trees_by_definition(grammar, folded, (0, 0))
        self.assertEqual(len(wanted), 300)
        self.assertEqual(alive_trees(grammar, folded, alive_of(grammar, folded), (0, 0)), wanted)
        self.assertRaises(TooMany, trees_at, grammar, folded, make_forest(grammar, folded), (0, 0))

    def test_a_barred_part_has_very_many_trees(self):
        # The part that is barred has alive trees of its own span, but none of the text.
        grammar = read_grammar(AB, "start S\nrule S = P\nrule P = P P\nrule P = Q\nrule Q = word Q\nrule Q = word\nbar 0 0 1")
        folded = words(24)
        alive = alive_of(grammar, folded)
        begin = time.perf_counter()
        self.assertGreater(count_alive(grammar, alive, ("P", 0, 24), (0, 0)), 10 ** 9)
        self.assertEqual(len(alive_trees(grammar, folded, alive, (0, 0))), 1)
        self.assertLess(time.perf_counter() - begin, 5)

    def test_deep_trees(self):
        symbols = "ABCDEFGHIJ"
        lines = ["start A"] + [f"rule {s} = {t}" for s, t in zip(symbols, symbols[1:])]
        grammar = read_grammar(AB, "\n".join(lines + ["rule J = word A", "rule J = word", "bar 9 1 0 {a}"]))
        folded = words(24)
        alive = alive_of(grammar, folded)
        self.assertEqual(alive_trees(grammar, folded, alive, (0, 0)),
                         trees_at(grammar, folded, make_forest(grammar, folded), (0, 0)))
        self.assertEqual(len(alive_trees(grammar, folded, alive, (0, 0))), 1)
        self.assertEqual(alive_trees(grammar, folded, alive, (1, 0)), [])

    def test_twenty_four_tokens_are_quick(self):
        chooser = random.Random(95)
        names = ("a", "b", "c", "d", "e")
        grammar = read_grammar(names, "start S\nrule S = S S S\nrule S = S S\nrule S = word\nbar 0 0 0 {a}\nbar 1 1 1 {!b}")
        folded = words(24, *[some_diagram(chooser, 5) for _ in range(24)])
        begin = time.perf_counter()
        alive = alive_of(grammar, folded)
        for config in all_configurations(5):
            span = whole_span(grammar, folded, config)
            if count_alive(grammar, alive, span, config) > 300:
                self.assertRaises(TooMany, alive_trees, grammar, folded, alive, config)
            else:
                for tree in alive_trees(grammar, folded, alive, config):
                    self.assertEqual(reasons_by_definition(grammar, folded, config, tree), [])
        self.assertLess(time.perf_counter() - begin, 20)


class UnchangedTest(unittest.TestCase):
    def test_nothing_is_changed_or_kept(self):
        grammar = read_grammar(AB, PAIRS + "\nbar 0 1 0 {a}")
        folded = words(4, True, A, NOT_A, B)
        forest = make_forest(grammar, folded)
        alive = alive_forest(grammar, folded, forest)
        kept = copy.deepcopy((grammar, folded, forest, alive))
        for config in all_configurations(2):
            span = whole_span(grammar, folded, config)
            count_alive(grammar, alive, span, config)
            wanted = list(alive_trees(grammar, folded, alive, config))
            alive_trees(grammar, folded, alive, config).append("more")
            self.assertEqual(alive_trees(grammar, folded, alive, config), wanted)
            self.assertEqual(count_alive(grammar, alive, ("S", 7, 9), config), 0)
        self.assertEqual((grammar, folded, forest, alive), kept)
        alive_forest(grammar, folded, forest).clear()
        self.assertEqual(alive_forest(grammar, folded, forest), alive)
        self.assertEqual((grammar, folded, forest), kept[:3])


if __name__ == "__main__":
    unittest.main()
