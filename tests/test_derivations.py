import copy
import random
import time
import unittest
from math import comb

from oncefolded.derivations import (
    count_derivations, derivations, is_allowed, is_derivation, reasons, tokens_in)
from oncefolded.errors import TooMany
from oncefolded.grammar_texts import read_grammar
from tests.helper import (
    all_configurations, all_trees, derivations_by_definition, folded_words, indexes_of, is_in,
    reasons_by_definition, some_cases)

AB = ("a", "b")
A, B = (0, False, True), (1, False, True)
NOT_A = (0, True, False)
SUM = read_grammar(AB, 'start Sum\nrule Sum = Sum "+" Sum {a}\nrule Sum = number\nbar 0 2 0')
PAIRS = read_grammar(AB, "start S\nrule S = S S\nrule S = word")
LEFT = (0, ((0, ((1, (0,)), 1, (1, (2,)))), 3, (1, (4,))))
RIGHT = (0, ((1, (0,)), 1, (0, ((1, (2,)), 3, (1, (4,))))))


def catalan(n):
    return comb(2 * n, n) // (n + 1)


def words(many, *diagrams):
    return folded_words("w " * many, *diagrams)


def chain_grammar(many):
    """Eleven symbols, each of which derives the next one alone."""
    names = "ABCDEFGHIJK"[:many]
    lines = ["start A"] + [f"rule {one} = {other}" for one, other in zip(names, names[1:])]
    return read_grammar(AB, "\n".join(lines + [f"rule {names[-1]} = word A", f"rule {names[-1]} = word"]))


def chain_tree(many, size):
    """The one tree of so many words in the grammar of so many symbols."""
    tree = None
    for index in reversed(range(size)):
        tree = (many, (index,)) if tree is None else (many - 1, (index, tree))
        for rule in reversed(range(many - 1)):
            tree = (rule, (tree,))
    return tree


class TokensInTest(unittest.TestCase):
    def test_trees_of_several_depths(self):
        self.assertEqual(tokens_in((1, (0,))), [0])
        self.assertEqual(tokens_in((3, (7, 9))), [7, 9])
        self.assertEqual(tokens_in((0, ((1, (4,)),))), [4])
        self.assertEqual(tokens_in(LEFT), [0, 1, 2, 3, 4])
        self.assertEqual(tokens_in(RIGHT), [0, 1, 2, 3, 4])
        self.assertEqual(tokens_in((0, (2, (1, (3, (0, (5,)))), 8))), [2, 3, 5, 8])

    def test_the_numbers_of_rules_are_no_tokens(self):
        self.assertEqual(tokens_in((11, ((10, (0,)), 1, (9, ((8, (2,)), 3))))), [0, 1, 2, 3])

    def test_a_deep_tree(self):
        tree = (0, (0,))
        for index in range(1, 280):
            tree = (1, (tree, index))
        self.assertEqual(tokens_in(tree), list(range(280)))


class ExampleTest(unittest.TestCase):
    def test_the_example_of_the_document(self):
        folded = folded_words("1 + 2 + 3")
        self.assertEqual(derivations(SUM, folded, (1, 0)), [LEFT, RIGHT])
        self.assertEqual(reasons(SUM, folded, (1, 0), LEFT), [])
        self.assertEqual(reasons(SUM, folded, (1, 0), RIGHT), [("bar", (), 2)])
        self.assertIs(is_allowed(SUM, folded, (1, 0), LEFT), True)
        self.assertIs(is_allowed(SUM, folded, (1, 0), RIGHT), False)
        self.assertEqual(derivations(SUM, folded, (0, 0)), [])
        self.assertEqual(count_derivations(SUM, folded, (0, 1)), 0)


class DerivationsTest(unittest.TestCase):
    def check(self, grammar, folded, count=2):
        """The list, the number and the truths are those of the definition; how many there are."""
        many = 0
        for config in all_configurations(count):
            wanted = derivations_by_definition(grammar, folded, config)
            if len(wanted) <= 300:
                found = derivations(grammar, folded, config)
                self.assertIsInstance(found, list)
                self.assertEqual(found, wanted, (grammar, folded, config))
            self.assertEqual(count_derivations(grammar, folded, config), len(wanted))
            row = [k for k, (_, d) in enumerate(folded) if is_in(d, config)]
            for tree in wanted[:20]:
                self.assertEqual(tokens_in(tree), row)
                self.assertIs(is_derivation(grammar, folded, config, tree), True)
            many += len(wanted)
        return many

    def test_one_two_and_three_parts(self):
        one = read_grammar(AB, "start S\nrule S = word\nrule S = T {a}\nrule T = number")
        two = read_grammar(AB, 'start S\nrule S = S S\nrule S = word\nrule S = "+" S {a}')
        three = read_grammar(AB, 'start S\nrule S = S "+" S\nrule S = S S S {b}\nrule S = number\nrule S = word')
        for text in ("w", "1", "w w", "+ w", "w + w", "+ + w w", "w w w", "1 + w + 2", "1 2 3 4 5", "w + 1 w 2", "+", "w +"):
            for grammar in (one, two, three):
                self.check(grammar, folded_words(text))
                self.check(grammar, folded_words(text, A, True, B, NOT_A))
        self.assertEqual(derivations(one, folded_words("1"), (1, 0)), [(1, ((2, (0,)),))])
        self.assertEqual(derivations(one, folded_words("1"), (0, 0)), [])
        self.assertEqual(derivations(two, folded_words("+ w w"), (1, 1)), [
            (0, ((2, (0, (1, (1,)))), (1, (2,)))), (2, (0, (0, ((1, (1,)), (1, (2,))))))])

    def test_rules_that_are_equal(self):
        grammar = read_grammar(AB, "start S\nrule S = word\nrule S = word {a}\nrule S = word\nrule S = \"w\"")
        self.assertEqual(derivations(grammar, words(1), (0, 0)), [(0, (0,)), (2, (0,)), (3, (0,))])
        self.assertEqual(derivations(grammar, words(1), (1, 0)), [(0, (0,)), (1, (0,)), (2, (0,)), (3, (0,))])

    def test_no_present_token(self):
        for folded in ([], words(1, A), words(3, A, A, (0, False, B))):
            self.assertEqual(derivations(PAIRS, folded, (0, 1)), [])
            self.assertEqual(count_derivations(PAIRS, folded, (0, 1)), 0)
            for value in ((), (0, ()), (1, ()), (1, (0,)), 0):
                self.assertIs(is_derivation(PAIRS, folded, (0, 1), value), False)

    def test_tokens_under_conditions(self):
        folded = words(4, True, A, NOT_A, B)
        self.assertEqual(derivations(PAIRS, folded, (0, 0)), [(0, ((1, (0,)), (1, (2,))))])
        self.assertEqual(derivations(PAIRS, folded, (1, 0)), [(0, ((1, (0,)), (1, (1,))))])
        self.assertEqual(derivations(PAIRS, folded, (1, 1)), [
            (0, ((0, ((1, (0,)), (1, (1,)))), (1, (3,)))), (0, ((1, (0,)), (0, ((1, (1,)), (1, (3,))))))])

    def test_many_grammars_and_texts(self):
        many = [self.check(grammar, folded) for grammar, folded in some_cases(12, 1500)]
        self.assertGreater(len([number for number in many if number > 0]), 500)
        self.assertGreater(len([number for number in many if number > 8]), 15)

    def test_longer_texts(self):
        self.assertGreater(self.check(PAIRS, words(7, A, True, B)), 100)
        for grammar, folded in some_cases(13, 60, 8):
            if len(folded) > 5 and max(len(all_trees(grammar, folded, config)) for config in all_configurations(2)) < 3000:
                self.check(grammar, folded)

    def test_all_groupings(self):
        for size in range(1, 25):
            self.assertEqual(count_derivations(PAIRS, words(size), (0, 0)), catalan(size - 1))
        twice = read_grammar(AB, "start S\nrule S = S S\nrule S = word\nrule S = S S {b}\nrule S = \"w\"")
        self.assertEqual(count_derivations(twice, words(24), (0, 0)), catalan(23) * 2 ** 24)
        self.assertEqual(count_derivations(twice, words(24), (0, 1)), catalan(23) * 2 ** 24 * 2 ** 23)

    def test_exactly_three_hundred_and_more(self):
        lines = ["start S"] + ["rule S = A S"] * 2 + ["rule S = A"] * 5 + ["rule A = word", "rule A = word word"]
        grammar = read_grammar(AB, "\n".join(lines))
        for size in range(1, 7):
            found = count_derivations(grammar, words(size), (0, 0))
            if found <= 300:
                self.assertEqual(derivations(grammar, words(size), (0, 0)),
                                 derivations_by_definition(grammar, words(size), (0, 0)))
            else:
                self.assertRaises(TooMany, derivations, grammar, words(size), (0, 0))
        self.assertEqual(len(derivations(grammar, words(5), (0, 0))), 300)
        grammar = read_grammar(AB, "start S\nrule S = A S\nrule S = A\nrule A = word" + "\nrule A = word word" * 5)
        self.assertEqual(count_derivations(grammar, words(6), (1, 0)), 301)
        self.assertRaises(TooMany, derivations, grammar, words(6), (1, 0))

    def test_other_configurations_do_not_count(self):
        folded = words(12, *[A] * 9)
        self.assertEqual(len(derivations(PAIRS, folded, (0, 0))), 2)
        self.assertRaises(TooMany, derivations, PAIRS, folded, (1, 0))

    def test_trees_that_no_derivation_has_do_not_count(self):
        grammar = read_grammar(AB, "start S\nrule S = \"w\" T {a}\nrule S = number\nrule T = word\nrule T = T T")
        folded = folded_words("1 " + "w " * 12, *[True] + [A] * 12)
        self.assertEqual(derivations(grammar, folded, (0, 0)), [(1, (0,))])
        self.assertEqual(derivations(grammar, folded, (1, 0)), [])

    def test_twenty_four_tokens_are_quick(self):
        begin = time.perf_counter()
        grammar = read_grammar(AB, "start S\nrule S = S S S\nrule S = S S\nrule S = T {a}\nrule T = word\nrule T = number")
        self.assertGreater(count_derivations(grammar, words(24), (1, 1)), catalan(23))
        self.assertRaises(TooMany, derivations, grammar, words(24), (1, 1))
        grammar = read_grammar(AB, "start S\nrule S = word S\nrule S = word\nrule S = word word")
        self.assertEqual(count_derivations(grammar, words(24), (0, 0)), 2)
        self.assertEqual(len(derivations(grammar, words(24), (0, 0))), 2)
        self.assertLess(time.perf_counter() - begin, 10)

    def test_deep_trees(self):
        grammar = chain_grammar(11)
        tree = chain_tree(11, 24)
        found = derivations(grammar, words(24), (0, 0))
        self.assertEqual(len(found), 1)
        self.assertTrue(found[0] == tree)
        self.assertEqual(tokens_in(tree), list(range(24)))
        self.assertIs(is_derivation(grammar, words(24), (0, 0), tree), True)
        self.assertIs(is_derivation(grammar, words(24), (0, 0), tree[1][0]), False)
        self.assertEqual(reasons(grammar, words(24), (0, 0), tree), [])


class IsDerivationTest(unittest.TestCase):
    # The grammar has two symbols, and texts, kinds and conditions.
    GRAMMAR = read_grammar(AB, 'start S\nrule S = T "+" S\nrule S = T\nrule T = word {a}\nrule T = number\nrule T = word {!a}')
    TEXT = folded_words("w + 1 + v", True, True, B, B)
    CONFIG = (1, 1)
    TREE = (0, ((2, (0,)), 1, (0, ((3, (2,)), 3, (1, ((2, (4,)),))))))

    def refuses(self, *values, config=CONFIG, folded=TEXT):
        for value in values:
            self.assertIs(is_derivation(self.GRAMMAR, folded, config, value), False, value)

    def test_the_tree(self):
        self.assertEqual(derivations(self.GRAMMAR, self.TEXT, self.CONFIG), [self.TREE])
        self.assertIs(is_derivation(self.GRAMMAR, self.TEXT, self.CONFIG, self.TREE), True)

    def test_every_number_exchanged(self):
        """Each rule and each index, exchanged for each other number: only the tree itself is one."""
        def exchanged(tree, number):
            if isinstance(tree, int):
                yield number
                return
            yield number, tree[1]
            for k, child in enumerate(tree[1]):
                for other in exchanged(child, number):
                    yield tree[0], tree[1][:k] + (other,) + tree[1][k + 1:]
        many = 0
        for number in list(range(-6, 9)) + [100, 10 ** 30, -10 ** 30]:
            for value in exchanged(self.TREE, number):
                self.assertIs(is_derivation(self.GRAMMAR, self.TEXT, self.CONFIG, value), value == self.TREE, value)
                many += value == self.TREE
        self.assertEqual(many, 11)

    def test_every_element_exchanged(self):
        def exchanged(value, new):
            yield new
            if isinstance(value, tuple):
                for k, element in enumerate(value):
                    for other in exchanged(element, new):
                        yield value[:k] + (other,) + value[k + 1:]
        for new in ((), (0,), (0, ()), ((), 0), (1, (1,)), (0, 0), (1, (2,), 3), (2, 4), ((2, (4,)),), (1, ((2, (0,)),))):
            for value in exchanged(self.TREE, new):
                self.assertIs(is_derivation(self.GRAMMAR, self.TEXT, self.CONFIG, value), value == self.TREE, value)

    def test_other_numbers_of_children(self):
        t, plus, s = self.TREE[1]
        self.refuses((0, (t, plus)), (0, (plus, s)), (0, (t, plus, s, s)), (0, (t, t, plus, s)), (0, ()), (0, (t,)), (1, (s, s)),
                     (0, (t, plus, s), ()), (0,), (0, t, plus, s), ((t, plus, s), 0))

    def test_other_tokens(self):
        self.refuses((0, ((2, (4,)), 1, (0, ((3, (2,)), 3, (1, ((2, (0,)),)))))),
                     (0, ((2, (0,)), 3, (0, ((3, (2,)), 1, (1, ((2, (4,)),)))))),
                     (0, ((2, (0,)), 1, (0, ((3, (2,)), 1, (1, ((2, (4,)),)))))),
                     (0, ((2, (0,)), 1, (1, ((2, (4,)),)))), (1, ((2, (0,)),)),
                     (0, ((2, (0,)), 1, (1, ((3, (2,)),)))),
                     (0, ((2, (0,)), 1, (0, ((2, (0,)), 1, self.TREE[1][2])))))

    def test_another_configuration(self):
        self.refuses(self.TREE, config=(0, 1))
        self.refuses(self.TREE, config=(1, 0))
        self.refuses(self.TREE, config=(0, 0))
        self.assertEqual(derivations(self.GRAMMAR, self.TEXT, (0, 0)), [(0, ((4, (0,)), 1, (1, ((4, (4,)),))))])
        self.refuses((0, ((4, (0,)), 1, (1, ((4, (4,)),)))))

    def test_a_tree_of_another_symbol(self):
        folded = folded_words("w")
        self.refuses((2, (0,)), folded=folded)
        self.assertIs(is_derivation(self.GRAMMAR, folded, self.CONFIG, (1, ((2, (0,)),))), True)

    def test_values_that_are_no_trees(self):
        self.refuses(0, 1, -1, 7, 10 ** 40, (), (0,), (0, 1), (0, 1, 2), ((), ()), ((0,), (0,)), (0, (0,)), (0, (0, 1, 2)),
                     (0, (0, 1, 2, 3, 4)), ((self.TREE,)), (self.TREE,), (self.TREE, self.TREE), self.TREE[1], self.TREE + (0,))

    def test_values_of_other_kinds(self):
        self.refuses(True, False, "", "0", ("0", (0,)), (True, ((2, (0,)),)), (0, "abc"))
        folded = folded_words("w")
        self.refuses((True, ((2, (0,)),)), (1, ((2, (False,)),)), (1, "2"), (1, ((2, "0"),)), (1, ((2, ("0",)),)), folded=folded)

    def test_deep_values(self):
        first, second, third, fourth, fifth = (), 0, (1, (0,)), (1, (0,)), 0
        for k in range(299):
            first = ((first,),)
            second = (0, (second, 1, second))
            third = (1, (third,))
            fourth = (0, ((2, (0,)), 1, fourth))
            fifth = (fifth, fifth)
        for value in (first, second, third, fourth, fifth, (0, (third, 1, third)), (0, ((2, (0,)), 1, second))):
            self.refuses(value)

    def test_a_wide_value_of_a_small_grammar(self):
        value = (1, (0,))
        for _ in range(299):
            value = (0, (value, value))
        for size in (1, 2, 24):
            self.assertIs(is_derivation(PAIRS, words(size), (0, 0), value), False)

    def test_many_spoilt_trees(self):
        chooser = random.Random(21)
        many = 0
        for grammar, folded in some_cases(22, 150, 4):
            for config in all_configurations(2):
                fine = derivations_by_definition(grammar, folded, config)
                others = list(all_trees(grammar, folded, config))
                others += [tree for other in all_configurations(2)
                           for tree in derivations_by_definition(grammar, folded, other)[:5]]
                others += [spoilt(chooser, chooser.choice(fine)) for _ in range(20 if fine else 0)]
                for value in others[:200]:
                    self.assertIs(is_derivation(grammar, folded, config, value), value in fine, (grammar, folded, config, value))
                    many += value not in fine
        self.assertGreater(many, 3000)


def spoilt(chooser, tree):
    """The tree with one number of it exchanged, or a child left out or doubled."""
    rule, children = tree
    if chooser.random() < 0.3:
        return chooser.randrange(-1, 9), children
    k = chooser.randrange(len(children))
    if chooser.random() < 0.1:
        return rule, children[:k] + children[k + 1:]
    if chooser.random() < 0.1:
        return rule, children[:k] + children[k:k + 1] + children[k:]
    new = spoilt(chooser, children[k]) if isinstance(children[k], tuple) else chooser.randrange(-1, 6)
    return rule, children[:k] + (new,) + children[k + 1:]


class ReasonsTest(unittest.TestCase):
    def test_bars_at_the_top_and_inside(self):
        grammar = read_grammar(AB, "start S\nrule S = S S\nrule S = word\nbar 0 1 0\nbar 0 0 0 {b}")
        folded = words(4)
        tree = (0, ((1, (0,)), (0, ((0, ((1, (1,)), (1, (2,)))), (1, (3,))))))
        self.assertEqual(reasons(grammar, folded, (0, 1), tree), [("bar", (), 1), ("bar", (1,), 0)])
        self.assertEqual(reasons(grammar, folded, (0, 0), tree), [("bar", (), 1)])
        left = (0, ((0, ((0, ((1, (0,)), (1, (1,)))), (1, (2,)))), (1, (3,))))
        self.assertEqual(reasons(grammar, folded, (1, 1), left), [("bar", (), 0), ("bar", (0,), 0)])
        self.assertEqual(reasons(grammar, folded, (1, 0), left), [])
        self.assertIs(is_allowed(grammar, folded, (1, 0), left), True)
        self.assertIs(is_allowed(grammar, folded, (1, 1), left), False)

    def test_each_kind_of_demand(self):
        token = {name: ("word", name, row, column, glued) for name, row, column, glued in
                 (("p", 0, 2, False), ("q", 0, 5, True), ("r", 1, 2, False))}
        for demand, first, second, holds in (
                ("same:0:1", "p", "r", True), ("same:0:1", "p", "q", False), ("same:1:0", "r", "q", False),
                ("right:0:1", "p", "q", True), ("right:0:1", "q", "p", False), ("right:0:1", "p", "r", False),
                ("right:1:0", "q", "p", True), ("row:0:1", "p", "q", True), ("row:0:1", "p", "r", False),
                ("row:1:0", "q", "r", False), ("glued:0", "q", "r", True), ("glued:0", "r", "q", False),
                ("glued:1", "r", "q", True), ("glued:1", "q", "r", False)):
            grammar = read_grammar(AB, f"start S\nrule S = word word {demand}\nrule S = number S glued:1")
            folded = [(token[first], True), (token[second], True)]
            tree = (0, (0, 1))
            self.assertEqual(reasons(grammar, folded, (0, 0), tree), [] if holds else [("demand", (), 0)], demand)
            self.assertIs(is_allowed(grammar, folded, (0, 0), tree), holds)
            more = [(("number", "1", 0, 0, False), True)] + folded
            wanted = [] if token[first][4] else [("demand", (), 0)]
            wanted += [] if holds else [("demand", (1,), 0)]
            self.assertEqual(reasons(grammar, more, (0, 0), (1, (0, (0, (1, 2))))), wanted, demand)

    def test_demands_speak_of_first_tokens(self):
        grammar = read_grammar(AB, "start S\nrule S = T U {1} row:0:1 same:1:0\nrule T = number V\nrule V = word\nrule U = V V")
        folded = [(("number", "1", 0, 3, False), True), (("word", "x", 1, 0, False), True), (("word", "y", 0, 3, False), True),
                  (("word", "z", 5, 9, False), True)]
        tree = (0, ((1, (0, (2, (1,)))), (3, ((2, (2,)), (2, (3,))))))
        self.assertEqual(derivations(grammar, folded, (0, 0)), [tree])
        self.assertEqual(reasons(grammar, folded, (0, 0), tree), [])
        folded[2] = (("word", "y", 1, 4, False), True)
        self.assertEqual(reasons(grammar, folded, (0, 0), tree), [("demand", (), 0), ("demand", (), 1)])

    def test_several_at_once(self):
        grammar = read_grammar(AB, "start S\nrule S = S word S row:0:2 glued:1 same:0:2\nrule S = word glued:0\nbar 0 0 0 {a}\nbar 0 2 1")
        folded = words(5)
        tree = (0, ((0, ((1, (0,)), 1, (1, (2,)))), 3, (1, (4,))))
        leaves = [("demand", (0,), 1), ("demand", (0,), 2), ("demand", (0, 0), 0), ("demand", (0, 2), 0), ("demand", (2,), 0)]
        self.assertEqual(reasons(grammar, folded, (1, 0), tree), [
            ("bar", (), 0), ("bar", (), 2), ("bar", (0,), 2), ("demand", (), 1), ("demand", (), 2), *leaves])
        self.assertEqual(reasons(grammar, folded, (0, 0), tree), [
            ("bar", (), 2), ("bar", (0,), 2), ("demand", (), 1), ("demand", (), 2), *leaves])

    def test_many_grammars_and_texts(self):
        with_reasons, allowed = 0, 0
        for grammar, folded in some_cases(31, 2000):
            for config in all_configurations(2):
                for tree in derivations_by_definition(grammar, folded, config)[:30]:
                    wanted = reasons_by_definition(grammar, folded, config, tree)
                    found = reasons(grammar, folded, config, tree)
                    self.assertIsInstance(found, list)
                    self.assertEqual(found, wanted, (grammar, folded, config, tree))
                    self.assertIs(is_allowed(grammar, folded, config, tree), not wanted)
                    with_reasons += len(wanted) > 1
                    allowed += not wanted
        self.assertGreater(with_reasons, 200)
        self.assertGreater(allowed, 200)


class UnchangedTest(unittest.TestCase):
    def test_nothing_is_changed_or_kept(self):
        folded = folded_words("1 + 2 + 3", A)
        kept = copy.deepcopy((SUM, folded))
        for config in all_configurations(2):
            first = derivations(SUM, folded, config)
            wanted = list(first)
            for tree in first:
                is_derivation(SUM, folded, config, tree)
                is_allowed(SUM, folded, config, tree)
                reasons(SUM, folded, config, tree).append("more")
                tokens_in(tree).clear()
            first.clear()
            count_derivations(SUM, folded, config)
            self.assertEqual(derivations(SUM, folded, config), wanted)
            for tree in wanted:
                self.assertEqual(tokens_in(tree), indexes_of(tree))
                self.assertNotIn("more", reasons(SUM, folded, config, tree))
        self.assertEqual((SUM, folded), kept)


if __name__ == "__main__":
    unittest.main()
