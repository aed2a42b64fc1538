import copy
import random
import time
import unittest

from oncefolded.diagrams import both, is_diagram
from oncefolded.forests import make_forest, roots, span_diagram
from oncefolded.grammar_texts import read_grammar
from tests.helper import (
    all_configurations, all_trees, derivations_by_definition, diagram_where, ends, folded_words,
    forest_by_definition, is_in, some_cases, some_diagram)

AB = ("a", "b")
A, B = (0, False, True), (1, False, True)
NOT_A, NOT_B = (0, True, False), (1, True, False)
A_AND_B, A_OR_B = (0, False, B), (0, B, True)
PAIRS = read_grammar(AB, "start S\nrule S = S S\nrule S = word")


class ForestCase(unittest.TestCase):
    def check(self, grammar, folded, count=2):
        """The forest is that of the definition, and has the form that is promised."""
        forest = make_forest(grammar, folded)
        self.assertIs(type(forest), dict)
        self.assertEqual(forest, forest_by_definition(grammar, folded, count), (grammar, folded))
        for (symbol, i, j), alternatives in forest.items():
            self.assertTrue(0 <= i < j <= len(folded))
            self.assertIs(type(alternatives), tuple)
            self.assertGreater(len(alternatives), 0)
            told = [(rule, pairs) for rule, pairs, _ in alternatives]
            self.assertEqual(told, sorted(set(told)))
            for rule, _, d in alternatives:
                self.assertEqual(grammar[1][rule][0], symbol)
                self.assertTrue(is_diagram(d, count) and d is not False)
        return forest


class MakeForestTest(ForestCase):
    def test_no_tokens(self):
        self.assertEqual(make_forest(PAIRS, []), {})

    def test_one_token(self):
        self.assertEqual(make_forest(PAIRS, folded_words("w")), {("S", 0, 1): ((1, ((0, 1),), True),)})
        self.assertEqual(make_forest(PAIRS, folded_words("w", A)), {("S", 0, 1): ((1, ((0, 1),), A),)})
        self.assertEqual(make_forest(PAIRS, folded_words("1")), {})
        self.assertEqual(make_forest(PAIRS, folded_words("w", False)), {})

    def test_tokens_between_that_are_absent(self):
        self.assertEqual(make_forest(PAIRS, folded_words("w w w", True, A, True)), {
            ("S", 0, 1): ((1, ((0, 1),), True),), ("S", 1, 2): ((1, ((1, 2),), A),), ("S", 2, 3): ((1, ((2, 3),), True),),
            ("S", 0, 2): ((0, ((0, 1), (1, 2)), A),), ("S", 1, 3): ((0, ((1, 2), (2, 3)), A),),
            ("S", 0, 3): ((0, ((0, 1), (1, 3)), A), (0, ((0, 1), (2, 3)), NOT_A), (0, ((0, 2), (2, 3)), A))})

    def test_two_tokens_between(self):
        forest = self.check(PAIRS, folded_words("w w w w", True, A, B, True))
        self.assertEqual(forest["S", 0, 4], (
            (0, ((0, 1), (1, 4)), A), (0, ((0, 1), (2, 4)), diagram_where(lambda c: c == (0, 1), 2)),
            (0, ((0, 1), (3, 4)), diagram_where(lambda c: c == (0, 0), 2)), (0, ((0, 2), (2, 4)), A_AND_B),
            (0, ((0, 2), (3, 4)), diagram_where(lambda c: c == (1, 0), 2)), (0, ((0, 3), (3, 4)), B)))

    def test_conditions_of_rules(self):
        grammar = read_grammar(AB, "start S\nrule S = T word {a}\nrule S = T word {!b}\nrule T = word {b}\nrule T = word {a&b}\nrule T = U\nrule U = word {!b}")
        forest = self.check(grammar, folded_words("w w"))
        self.assertEqual(forest["T", 0, 1], ((2, ((0, 1),), B), (3, ((0, 1),), A_AND_B), (4, ((0, 1),), NOT_B)))
        self.assertEqual(forest["S", 0, 2], ((0, ((0, 1), (1, 2)), A), (1, ((0, 1), (1, 2)), NOT_B)))
        self.check(grammar, folded_words("w w w", A, NOT_A, A_OR_B))

    def test_three_parts(self):
        grammar = read_grammar(AB, 'start S\nrule S = "(" S ")"\nrule S = S "+" S {a}\nrule S = word\nrule S = S S S {b}')
        for text in ("w", "( w )", "w + w", "( w + w )", "w + w + w", "w w w", "( w w w )", "w ( w ) w"):
            self.check(grammar, folded_words(text))
            self.check(grammar, folded_words(text, A, True, B, A_OR_B, NOT_A, True, NOT_B))

    def test_symbols_that_the_start_does_not_need(self):
        grammar = read_grammar(AB, "start S\nrule S = number\nrule T = word S\nrule U = T\nrule U = U U")
        forest = self.check(grammar, folded_words("w 1 w 2", A, True, True))
        self.assertIn(("U", 0, 4), forest)

    def test_lone_symbols(self):
        grammar = read_grammar(AB, "start A\nrule A = B {a}\nrule A = C\nrule B = C\nrule B = word\nrule C = word {b}\nrule C = A A")
        for size in range(1, 6):
            self.check(grammar, folded_words("w " * size))
            self.check(grammar, folded_words("w " * size, A_OR_B, NOT_B, A, True, B))

    def test_rules_that_are_equal(self):
        grammar = read_grammar(AB, "start S\nrule S = S S\nrule S = word\nrule S = S S\nrule S = \"w\" {a}")
        self.check(grammar, folded_words("w w w", True, A, B))

    def test_tokens_that_are_never_present(self):
        forest = self.check(PAIRS, folded_words("w w w", True, False, A))
        self.assertEqual(sorted(forest), [("S", 0, 1), ("S", 0, 3), ("S", 2, 3)])

    def test_conditions_that_exclude_each_other(self):
        forest = self.check(PAIRS, folded_words("w w w w", A, NOT_A, A_AND_B, B))
        self.assertNotIn(("S", 0, 2), forest)
        self.assertNotIn(("S", 1, 3), forest)

    def test_many_grammars_and_texts(self):
        large = 0
        for grammar, folded in some_cases(41, 400):
            large += len(self.check(grammar, folded)) > 6
        self.assertGreater(large, 60)
        for grammar, folded in some_cases(42, 30, 7):
            self.check(grammar, folded)

    def test_other_numbers_of_switches(self):
        chooser = random.Random(43)
        grammar = read_grammar(AB, "start S\nrule S = S S\nrule S = word\nrule S = S word S {a}")
        for count in (1, 3, 5):
            for _ in range(8):
                self.check(grammar, folded_words("w " * 5, *[some_diagram(chooser, count) for _ in range(5)]), count)

    def test_no_integer_stands_in_the_place_of_a_truth(self):
        for grammar, folded in some_cases(44, 40):
            for alternatives in make_forest(grammar, folded).values():
                for _, _, d in alternatives:
                    self.assertTrue(all(type(end) is bool for end in ends(d)))

    def test_twenty_four_tokens_are_quick(self):
        chooser = random.Random(45)
        grammar = read_grammar(("a", "b", "c", "d", "e"), "start S\nrule S = S S S {a|c}\nrule S = S S\nrule S = word {!e|b}\nrule S = T T\nrule T = word")
        begin = time.perf_counter()
        for diagrams in ([], [some_diagram(chooser, 5) for _ in range(24)]):
            folded = folded_words("w " * 24, *diagrams)
            forest = make_forest(grammar, folded)
            self.assertGreater(len(forest), 300)
            self.assertGreater(len(roots(grammar, folded, forest)), 0)
        self.assertLess(time.perf_counter() - begin, 10)


class SpanDiagramTest(unittest.TestCase):
    def test_a_span_that_is_not_there(self):
        forest = make_forest(PAIRS, folded_words("w 1 w"))
        for span in (("S", 1, 2), ("S", 0, 3), ("T", 0, 1), ("S", 5, 9), ("", 0, 0)):
            self.assertIs(span_diagram(forest, span), False)
            self.assertIs(span_diagram({}, span), False)

    def test_where_one_alternative_holds(self):
        forest = make_forest(PAIRS, folded_words("w w w", True, A, B))
        self.assertIs(span_diagram(forest, ("S", 0, 1)), True)
        self.assertEqual(span_diagram(forest, ("S", 0, 2)), A)
        self.assertEqual(span_diagram(forest, ("S", 0, 3)), B)
        self.assertEqual(span_diagram(forest, ("S", 1, 3)), A_AND_B)

    def test_many_spans(self):
        for grammar, folded in some_cases(51, 150):
            forest = make_forest(grammar, folded)
            trees = {config: set(all_trees(grammar, folded, config).values()) for config in all_configurations(2)}
            for symbol in {rule[0] for rule in grammar[1]}:
                for i in range(len(folded)):
                    for j in range(i + 1, len(folded) + 1):
                        wanted = diagram_where(lambda config: (symbol, i, j - 1) in trees[config], 2)
                        self.assertEqual(span_diagram(forest, (symbol, i, j)), wanted)


class RootsTest(unittest.TestCase):
    def test_plain_ones(self):
        folded = folded_words("w w w", True, A, B)
        forest = make_forest(PAIRS, folded)
        self.assertEqual(roots(PAIRS, folded, forest), [
            (("S", 0, 1), diagram_where(lambda c: c == (0, 0), 2)), (("S", 0, 2), diagram_where(lambda c: c == (1, 0), 2)),
            (("S", 0, 3), B)])

    def test_no_tokens_or_no_trees(self):
        self.assertEqual(roots(PAIRS, [], {}), [])
        for text in ("1", "w 1", "1 w"):
            folded = folded_words(text)
            self.assertEqual(roots(PAIRS, folded, make_forest(PAIRS, folded)), [])
        folded = folded_words("1 w", A)
        self.assertEqual(roots(PAIRS, folded, make_forest(PAIRS, folded)), [(("S", 1, 2), NOT_A)])

    def test_spans_of_the_start_alone(self):
        grammar = read_grammar(AB, "start T\nrule S = word\nrule T = S S {a}")
        folded = folded_words("w w")
        self.assertEqual(roots(grammar, folded, make_forest(grammar, folded)), [(("T", 0, 2), A)])

    def test_many_roots(self):
        several = 0
        for grammar, folded in some_cases(61, 400):
            forest = make_forest(grammar, folded)
            found = roots(grammar, folded, forest)
            self.assertIsInstance(found, list)
            spans = [span for span, _ in found]
            self.assertEqual(spans, sorted(set(spans)))
            wanted = {}
            for config in all_configurations(2):
                row = [k for k, (_, d) in enumerate(folded) if is_in(d, config)]
                if derivations_by_definition(grammar, folded, config):
                    wanted.setdefault((grammar[0], row[0], row[-1] + 1), []).append(config)
            self.assertEqual(found, sorted((span, diagram_where(lambda c: c in configs, 2)) for span, configs in wanted.items()))
            for k, (_, d) in enumerate(found):
                self.assertTrue(all(both(d, e) is False for _, e in found[k + 1:]))
            several += len(found) > 1
        self.assertGreater(several, 30)


class UnchangedTest(unittest.TestCase):
    def test_nothing_is_changed_or_kept(self):
        folded = folded_words("w w w", True, A, B)
        kept = copy.deepcopy((PAIRS, folded))
        forest = make_forest(PAIRS, folded)
        wanted = dict(forest)
        found = roots(PAIRS, folded, forest)
        for span in list(forest) + [("S", 7, 8)]:
            span_diagram(forest, span)
        self.assertEqual(forest, wanted)
        self.assertEqual((PAIRS, folded), kept)
        told = list(found)
        found.clear()
        self.assertEqual(roots(PAIRS, folded, forest), told)
        forest.clear()
        self.assertEqual(make_forest(PAIRS, folded), wanted)


if __name__ == "__main__":
    unittest.main()
