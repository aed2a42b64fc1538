import copy
import random
import time
import unittest

from oncefolded.alive import alive_forest, count_alive
from oncefolded.conditions import conditions
from oncefolded.diagrams import is_diagram
from oncefolded.forests import make_forest
from oncefolded.grammar_texts import read_grammar
from oncefolded.trees import whole_span
from tests.helper import (
    all_configurations, conditions_by_definition, diagram_where, folded_words, is_in, some_cases, some_diagram)

AB = ("a", "b")
A, B = (0, False, True), (1, False, True)
NOT_A, NOT_B = (0, True, False), (1, True, False)
SUMS = 'start S\nrule S = S "+" S\nrule S = number'


def conditions_of(grammar, folded):
    return conditions(grammar, folded, alive_forest(grammar, folded, make_forest(grammar, folded)))


class ConditionsTest(unittest.TestCase):
    def check(self, grammar, folded, count=2):
        """The conditions are those of the definition, and exactly one holds in each configuration."""
        found = conditions_of(grammar, folded)
        self.assertIs(type(found), tuple)
        self.assertEqual(found, conditions_by_definition(grammar, folded, count), (grammar, folded))
        for d in found:
            self.assertTrue(is_diagram(d, count))
        for config in all_configurations(count):
            self.assertEqual([is_in(d, config) for d in found].count(True), 1)
        return found

    def test_no_tokens(self):
        self.assertEqual(self.check(read_grammar(AB, SUMS), []), (True, False, False))
        self.assertEqual(self.check(read_grammar(AB, SUMS), folded_words("1", False)), (True, False, False))

    def test_none_one_and_several(self):
        grammar = read_grammar(AB, SUMS)
        self.assertEqual(self.check(grammar, folded_words("1 + 2")), (False, True, False))
        self.assertEqual(self.check(grammar, folded_words("1 + 2 + 3")), (False, False, True))
        self.assertEqual(self.check(grammar, folded_words("1 + 2 +")), (True, False, False))
        # One tree without the last two, two with both, none with one of them.
        folded = folded_words("1 + 2 + 3", True, True, True, A, B)
        self.assertEqual(self.check(grammar, folded), (
            diagram_where(lambda c: c[0] != c[1], 2), diagram_where(lambda c: c == (0, 0), 2),
            diagram_where(lambda c: c == (1, 1), 2)))

    def test_where_no_token_is_present(self):
        self.assertEqual(self.check(read_grammar(AB, SUMS), folded_words("1", A)), (NOT_A, A, False))

    def test_two_alternatives_of_one_span(self):
        grammar = read_grammar(AB, "start S\nrule S = number\nrule S = number {a}\nrule S = word {b}")
        self.assertEqual(self.check(grammar, folded_words("1")), (False, NOT_A, A))
        self.assertEqual(self.check(grammar, folded_words("w")), (NOT_B, B, False))

    def test_the_parts_of_one_alternative_have_several(self):
        grammar = read_grammar(AB, "start S\nrule S = T U\nrule T = word {a}\nrule T = word\nrule U = word {b}\nrule U = word")
        self.assertEqual(self.check(grammar, folded_words("v w")), (
            False, diagram_where(lambda c: c == (0, 0), 2), diagram_where(lambda c: c != (0, 0), 2)))

    def test_alternatives_whose_parts_end_elsewhere(self):
        grammar = read_grammar(AB, "start S\nrule S = T U\nrule T = word\nrule T = word word\nrule U = word\nrule U = word word")
        self.assertEqual(self.check(grammar, folded_words("u v w")), (False, False, True))
        self.assertEqual(self.check(grammar, folded_words("u v w", A)), (False, NOT_A, A))

    def test_alternatives_that_differ_only_in_what_is_absent(self):
        # In each configuration there is one of the alternatives with these ends.
        grammar = read_grammar(AB, "start S\nrule S = word word")
        self.assertEqual(self.check(grammar, folded_words("u v w", True, A, NOT_A)), (False, True, False))
        self.assertEqual(self.check(grammar, folded_words("u v w", A, B, True)), (
            diagram_where(lambda c: c[0] == c[1], 2), diagram_where(lambda c: c[0] != c[1], 2), False))

    def test_several_trees_of_a_part(self):
        grammar = read_grammar(AB, "start S\nrule S = P word\nrule S = word P\nrule P = number\nrule P = number number\nrule P = number")
        self.assertEqual(self.check(grammar, folded_words("1 w")), (False, False, True))
        self.assertEqual(self.check(grammar, folded_words("1 1")), (True, False, False))

    def test_bars(self):
        self.assertEqual(self.check(read_grammar(AB, SUMS + "\nbar 0 2 0"), folded_words("1 + 2 + 3")), (False, True, False))
        self.assertEqual(self.check(read_grammar(AB, SUMS + "\nbar 0 2 0 {a}"), folded_words("1 + 2 + 3")), (False, A, NOT_A))
        both = SUMS + "\nbar 0 0 0 {b}\nbar 0 2 0 {a}"
        self.assertEqual(self.check(read_grammar(AB, both), folded_words("1 + 2 + 3")), (
            (0, False, B), diagram_where(lambda c: c[0] != c[1], 2), diagram_where(lambda c: c == (0, 0), 2)))

    def test_a_bar_leaves_one_of_several_below(self):
        grammar = read_grammar(AB, "start S\nrule S = T\nrule T = number\nrule T = number\nrule T = number\n"
                                   "bar 0 0 1 {a}\nbar 0 0 3 {a&b}")
        self.assertEqual(self.check(grammar, folded_words("1")), (False, (0, False, B), (0, True, NOT_B)))

    def test_many_grammars_and_texts(self):
        seen = set()
        for grammar, folded in some_cases(911, 1500):
            found = self.check(grammar, folded)
            seen.add(tuple(d is not False for d in found))
        self.assertEqual(len(seen), 7)

    def test_larger_texts(self):
        for grammar, folded in some_cases(912, 40, 6):
            self.check(grammar, folded)

    def test_five_switches(self):
        chooser = random.Random(913)
        names = ("a", "b", "c", "d", "e")
        grammar = read_grammar(names, SUMS + " {a|b|c}\nrule S = word {!d}\nbar 0 2 0 {e}")
        for _ in range(25):
            folded = folded_words("1 + w + 2", *[some_diagram(chooser, 5, 0.8) for _ in range(5)])
            self.check(grammar, folded, 5)

    def test_twenty_four_tokens_are_quick(self):
        chooser = random.Random(914)
        names = ("a", "b", "c", "d", "e")
        grammar = read_grammar(names, "start S\nrule S = S S S\nrule S = S S\nrule S = word\nbar 0 0 0 {a}\nbar 1 1 1 {!b}")
        begin = time.perf_counter()
        for diagrams in ([], [some_diagram(chooser, 5) for _ in range(24)], [(k % 5, False, True) for k in range(24)]):
            folded = folded_words("w " * 24, *diagrams)
            alive = alive_forest(grammar, folded, make_forest(grammar, folded))
            found = conditions(grammar, folded, alive)
            for config in all_configurations(5):
                span = whole_span(grammar, folded, config)
                many = 0 if span is None else count_alive(grammar, alive, span, config)
                self.assertEqual([is_in(d, config) for d in found], [many == 0, many == 1, many > 1])
        self.assertLess(time.perf_counter() - begin, 20)

    def test_nothing_is_changed(self):
        grammar = read_grammar(AB, SUMS + "\nbar 0 2 0 {a}")
        folded = folded_words("1 + 2 + 3", True, True, True, A, B)
        alive = alive_forest(grammar, folded, make_forest(grammar, folded))
        kept = copy.deepcopy((grammar, folded, alive))
        wanted = conditions(grammar, folded, alive)
        self.assertEqual(conditions(grammar, folded, alive), wanted)
        self.assertEqual((grammar, folded, alive), kept)


if __name__ == "__main__":
    unittest.main()
