import copy
import random
import time
import unittest
from math import comb

from oncefolded.derivations import count_derivations, derivations
from oncefolded.errors import TooMany
from oncefolded.forests import make_forest, roots
from oncefolded.grammar_texts import read_grammar
from oncefolded.trees import count_trees, trees_at, trees_of, whole_span
from tests.helper import (
    all_configurations, all_trees, derivations_by_definition, folded_words, is_in, some_cases, some_diagram)

AB = ("a", "b")
A, B = (0, False, True), (1, False, True)
NOT_A = (0, True, False)
PAIRS = read_grammar(AB, "start S\nrule S = S S\nrule S = word")


def words(many, *diagrams):
    return folded_words("w " * many, *diagrams)


class WholeSpanTest(unittest.TestCase):
    def test_first_and_last_present_token(self):
        folded = words(4, A, True, B, NOT_A)
        self.assertEqual(whole_span(PAIRS, folded, (0, 0)), ("S", 1, 4))
        self.assertEqual(whole_span(PAIRS, folded, (1, 0)), ("S", 0, 2))
        self.assertEqual(whole_span(PAIRS, folded, (1, 1)), ("S", 0, 3))
        self.assertEqual(whole_span(PAIRS, words(1), (0, 0)), ("S", 0, 1))

    def test_the_start(self):
        grammar = read_grammar(AB, "start T\nrule S = word\nrule T = S S")
        self.assertEqual(whole_span(grammar, words(2), (0, 0)), ("T", 0, 2))
        self.assertEqual(whole_span(grammar, folded_words("+ 1 ; w"), (0, 0)), ("T", 0, 4))

    def test_without_a_present_token(self):
        self.assertIsNone(whole_span(PAIRS, [], (0, 0)))
        self.assertIsNone(whole_span(PAIRS, words(3, A, A, (0, False, B)), (0, 1)))
        self.assertIsNone(whole_span(PAIRS, words(1, False), (0, 1)))


class TreesTest(unittest.TestCase):
    def trees_are(self, grammar, forest, span, config, wanted):
        self.assertEqual(count_trees(grammar, forest, span, config), len(wanted))
        if len(wanted) > 300:
            self.assertRaises(TooMany, trees_of, grammar, forest, span, config)
        else:
            found = trees_of(grammar, forest, span, config)
            self.assertIsInstance(found, list)
            self.assertEqual(found, wanted, (grammar, span, config))

    def check(self, grammar, folded):
        """The trees of each span and of each configuration; how many there are."""
        many = 0
        forest = make_forest(grammar, folded)
        for config in all_configurations(2):
            spans = {}
            for tree, (symbol, first, last) in all_trees(grammar, folded, config).items():
                spans.setdefault((symbol, first, last + 1), []).append(tree)
            for symbol in {rule[0] for rule in grammar[1]}:
                for i in range(len(folded)):
                    for j in range(i + 1, len(folded) + 1):
                        wanted = sorted(spans.get((symbol, i, j), []))
                        self.trees_are(grammar, forest, (symbol, i, j), config, wanted)
                        many += len(wanted)
            wanted = derivations_by_definition(grammar, folded, config)
            span = whole_span(grammar, folded, config)
            self.assertEqual(span is None, not any(is_in(d, config) for _, d in folded))
            if span is not None:
                self.assertEqual(count_trees(grammar, forest, span, config), len(wanted))
            if len(wanted) <= 300:
                self.assertEqual(trees_at(grammar, folded, forest, config), wanted)
                self.assertEqual(derivations(grammar, folded, config), wanted)
        return many

    def test_plain_ones(self):
        folded = words(4, True, A, NOT_A, B)
        forest = make_forest(PAIRS, folded)
        self.assertEqual(trees_at(PAIRS, folded, forest, (0, 0)), [(0, ((1, (0,)), (1, (2,))))])
        self.assertEqual(trees_at(PAIRS, folded, forest, (1, 1)), [
            (0, ((0, ((1, (0,)), (1, (1,)))), (1, (3,)))), (0, ((1, (0,)), (0, ((1, (1,)), (1, (3,))))))])
        self.assertEqual(trees_of(PAIRS, forest, ("S", 0, 3), (0, 1)), [(0, ((1, (0,)), (1, (2,))))])
        self.assertEqual(trees_of(PAIRS, forest, ("S", 1, 2), (1, 1)), [(1, (1,))])
        self.assertEqual(count_trees(PAIRS, forest, ("S", 0, 4), (0, 1)), 2)

    def test_no_present_token(self):
        for folded in ([], words(2, A, A)):
            self.assertEqual(trees_at(PAIRS, folded, make_forest(PAIRS, folded), (0, 1)), [])

    def test_spans_that_the_forest_does_not_have(self):
        folded = folded_words("w 1 w")
        forest = make_forest(PAIRS, folded)
        for span in (("S", 1, 2), ("S", 0, 3), ("S", 0, 2), ("T", 0, 1), ("Word", 2, 3), ("S", 3, 4), ("S", 20, 24)):
            self.trees_are(PAIRS, forest, span, (0, 0), [])
            self.trees_are(PAIRS, {}, span, (0, 0), [])

    def test_the_first_or_the_last_token_is_absent(self):
        forest = make_forest(PAIRS, words(3, A, True, B))
        self.trees_are(PAIRS, forest, ("S", 0, 2), (0, 1), [])
        self.trees_are(PAIRS, forest, ("S", 1, 3), (1, 0), [])
        self.trees_are(PAIRS, forest, ("S", 0, 3), (1, 0), [])
        self.trees_are(PAIRS, forest, ("S", 0, 3), (0, 1), [])
        self.trees_are(PAIRS, forest, ("S", 0, 1), (0, 0), [])
        self.assertEqual(count_trees(PAIRS, forest, ("S", 0, 3), (1, 1)), 2)

    def test_many_grammars_and_texts(self):
        self.assertGreater(sum(self.check(grammar, folded) for grammar, folded in some_cases(71, 400)), 5000)
        for grammar, folded in some_cases(72, 20, 6):
            if max(len(all_trees(grammar, folded, config)) for config in all_configurations(2)) < 2000:
                self.check(grammar, folded)

    def test_trees_ascend_though_their_alternatives_do_not(self):
        grammar = read_grammar(AB, "start S\nrule S = T T\nrule T = T T\nrule T = word\nrule T = U\nrule U = word\nrule U = word word")
        for size in range(2, 6):
            self.check(grammar, words(size))
            self.check(grammar, words(size, True, A, B, NOT_A))

    def test_groupings_of_twenty_four_words(self):
        begin = time.perf_counter()
        for diagrams in ([], [A] * 20, [A, B] * 12):
            folded = words(24, *diagrams)
            forest = make_forest(PAIRS, folded)
            for config in all_configurations(2):
                size = len([1 for _, d in folded if is_in(d, config)])
                span = whole_span(PAIRS, folded, config)
                if span is None:
                    self.assertEqual(trees_at(PAIRS, folded, forest, config), [])
                    continue
                wanted = comb(2 * size - 2, size - 1) // size
                self.assertEqual(count_trees(PAIRS, forest, span, config), wanted)
                self.assertEqual(count_derivations(PAIRS, folded, config), wanted)
                if wanted > 300:
                    self.assertRaises(TooMany, trees_at, PAIRS, folded, forest, config)
                    self.assertRaises(TooMany, trees_of, PAIRS, forest, span, config)
        self.assertLess(time.perf_counter() - begin, 10)

    def test_exactly_three_hundred_and_more(self):
        lines = ["start S"] + ["rule S = A S"] * 2 + ["rule S = A"] * 5 + ["rule A = word", "rule A = word word"]
        grammar = read_grammar(AB, "\n".join(lines))
        forest = make_forest(grammar, words(5))
        found = trees_at(grammar, words(5), forest, (0, 0))
        self.assertEqual(len(found), 300)
        self.assertEqual(found, derivations_by_definition(grammar, words(5), (0, 0)))
        self.assertEqual(trees_of(grammar, forest, ("S", 0, 5), (1, 1)), found)
        grammar = read_grammar(AB, "start S\nrule S = A S\nrule S = A\nrule A = word" + "\nrule A = word word" * 5)
        forest = make_forest(grammar, words(6))
        self.assertEqual(count_trees(grammar, forest, ("S", 0, 6), (1, 0)), 301)
        self.assertRaises(TooMany, trees_of, grammar, forest, ("S", 0, 6), (1, 0))
        self.assertRaises(TooMany, trees_at, grammar, words(6), forest, (1, 0))

    def test_twenty_four_tokens_are_quick(self):
        chooser = random.Random(75)
        names = ("a", "b", "c", "d", "e")
        grammar = read_grammar(names, "start S\nrule S = S word S {a}\nrule S = T S\nrule S = T\nrule T = word {b|c}\nrule T = word word {!c}")
        folded = words(24, *[some_diagram(chooser, 5) for _ in range(24)])
        begin = time.perf_counter()
        forest = make_forest(grammar, folded)
        for config in all_configurations(5):
            span = whole_span(grammar, folded, config)
            many = count_trees(grammar, forest, span, config)
            self.assertEqual(many, count_derivations(grammar, folded, config))
            if many <= 300:
                self.assertEqual(trees_at(grammar, folded, forest, config), derivations(grammar, folded, config))
            else:
                self.assertRaises(TooMany, trees_at, grammar, folded, forest, config)
        self.assertLess(time.perf_counter() - begin, 20)

    def test_exactly_one_root_holds_where_there_is_a_tree(self):
        some = 0
        for grammar, folded in some_cases(81, 200):
            forest = make_forest(grammar, folded)
            found = roots(grammar, folded, forest)
            for config in all_configurations(2):
                span = whole_span(grammar, folded, config)
                holding = [root for root, d in found if is_in(d, config)]
                if span is not None and count_trees(grammar, forest, span, config) > 0:
                    self.assertEqual(holding, [span])
                    some += 1
                else:
                    self.assertEqual(holding, [])
        self.assertGreater(some, 100)


class UnchangedTest(unittest.TestCase):
    def test_nothing_is_changed_or_kept(self):
        folded = words(4, True, A, NOT_A, B)
        forest = make_forest(PAIRS, folded)
        kept = copy.deepcopy((PAIRS, folded, forest))
        for config in all_configurations(2):
            span = whole_span(PAIRS, folded, config)
            count_trees(PAIRS, forest, span, config)
            wanted = list(trees_of(PAIRS, forest, span, config))
            trees_of(PAIRS, forest, span, config).clear()
            trees_at(PAIRS, folded, forest, config).append("more")
            self.assertEqual(trees_of(PAIRS, forest, span, config), wanted)
            self.assertEqual(trees_at(PAIRS, folded, forest, config), wanted)
            self.assertEqual(count_trees(PAIRS, forest, ("S", 7, 9), config), 0)
        self.assertEqual((PAIRS, folded, forest), kept)


if __name__ == "__main__":
    unittest.main()
