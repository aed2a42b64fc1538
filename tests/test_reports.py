import copy
import random
import time
import unittest

from oncefolded.errors import NotAllowed
from oncefolded.grammar_texts import read_grammar
from oncefolded.papers import check_paper, check_report
from oncefolded.reports import make_report, nothing_paper, once_paper
from tests.helper import (
    PlainPapers, all_configurations, conditions_by_definition, configs_of, diagram_by_definition, folded_words, is_in,
    some_cases, some_diagram, some_sets, texts_trees_by_definition)

AB = ("a", "b")
A, B = (0, False, True), (1, False, True)
NOT_A, NOT_B = (0, True, False), (1, True, False)
SUMS = read_grammar(AB, 'start S\nrule S = S "+" S\nrule S = number\nbar 0 2 0 {a}')
# Nothing without a and with b; one tree without b; two with both, of which a bar takes one away.
FOLDED = folded_words("1 + 2 + 3", True, True, True, B, (0, False, B))


class PaperCase(unittest.TestCase):
    def check(self, maker, grammar, folded, d, count):
        """The paper has this diagram and is right, and nothing was changed."""
        kept = copy.deepcopy((grammar, folded, d))
        paper = maker(grammar, folded, d)
        self.assertEqual(paper[:2], ("nothing" if maker is nothing_paper else "once", d))
        self.assertIs(check_paper(grammar, folded, count, paper), True)
        self.assertEqual((grammar, folded, d), kept)
        return paper


class SinglePapersTest(PaperCase):
    def test_nothing(self):
        none = (0, B, False)
        for d in (none, False):
            self.check(nothing_paper, SUMS, FOLDED, d, 2)
        self.assertEqual(self.check(nothing_paper, SUMS, FOLDED, False, 2)[2], ())
        for d in (True, B, NOT_A, A, NOT_B, (0, False, B)):
            self.assertRaises(NotAllowed, nothing_paper, SUMS, FOLDED, d)
        self.check(nothing_paper, SUMS, FOLDED[:2], True, 2)
        self.check(nothing_paper, SUMS, FOLDED[:4], B, 2)

    def test_once(self):
        for d in (True, False, A, B, NOT_A, NOT_B, (0, B, False), (0, NOT_B, B)):
            self.check(once_paper, SUMS, FOLDED, d, 2)
        folded = folded_words("1 + 2 + 3")
        self.check(once_paper, SUMS, folded, A, 2)
        self.check(once_paper, SUMS, folded, (0, False, NOT_B), 2)
        for d in (True, NOT_A, B, NOT_B, (0, B, True)):
            self.assertRaises(NotAllowed, once_paper, SUMS, folded, d)

    def test_no_tokens(self):
        for maker in (nothing_paper, once_paper):
            for d in (True, False, A, (0, NOT_B, B)):
                self.assertEqual(self.check(maker, SUMS, [], d, 2)[2], ())

    def test_diagrams_with_other_switches(self):
        d = (2, False, (4, True, False))
        self.check(once_paper, SUMS, FOLDED, d, 5)
        self.check(nothing_paper, SUMS, FOLDED[:2], d, 5)
        self.check(nothing_paper, SUMS, FOLDED, (0, (1, False, d), False), 5)
        self.assertRaises(NotAllowed, nothing_paper, SUMS, FOLDED, d)
        self.assertRaises(NotAllowed, once_paper, SUMS, folded_words("1 + 2 + 3"), d)

    def test_what_ends_elsewhere_is_not_needed(self):
        # The first part is two numbers; that it might be one number, in two ways, does not count.
        grammar = read_grammar(AB, "start S\nrule S = T word\nrule T = number\nrule T = number\nrule T = number number")
        self.check(once_paper, grammar, folded_words("1 2 w"), True, 2)
        self.check(once_paper, grammar, folded_words("1 2 w", True, A), A, 2)
        self.assertRaises(NotAllowed, once_paper, grammar, folded_words("1 2 w", True, A), NOT_A)

    def test_the_rows_are_the_smallest(self):
        for grammar, folded in some_cases(964, 60, 4):
            plain = PlainPapers(grammar, folded, 2)
            none, one, _ = conditions_by_definition(grammar, folded, 2)
            self.assertEqual(nothing_paper(grammar, folded, none), plain.paper("nothing", configs_of(none, 2)))
            self.assertEqual(once_paper(grammar, folded, one), plain.paper("once", configs_of(one, 2)))

    def test_many(self):
        many = {(word, found): 0 for word in ("nothing", "once") for found in (False, True)}
        for grammar, folded in some_cases(961, 250, 4):
            plain = PlainPapers(grammar, folded, 2)
            none, one, several = conditions_by_definition(grammar, folded, 2)
            zero = configs_of(none, 2)
            for word, maker, most in (("nothing", nothing_paper, zero), ("once", once_paper, zero | configs_of(one, 2))):
                for where in [most] + some_sets(2, 12, len(folded)):
                    d = diagram_by_definition(where, 2)
                    many[word, where <= most] += 1
                    if where <= most:
                        paper = self.check(maker, grammar, folded, d, 2)
                        self.assertTrue(plain.is_right(paper))
                    else:
                        self.assertRaises(NotAllowed, maker, grammar, folded, d)
        self.assertGreater(min(many.values()), 100, many)


class MakeReportTest(unittest.TestCase):
    def check(self, grammar, folded, count, wanted=None):
        kept = copy.deepcopy((grammar, folded))
        found, report = make_report(grammar, folded, count)
        self.assertEqual((grammar, folded), kept)
        if wanted is not None:
            self.assertEqual(found, wanted)
        self.assertIs(type(report), tuple)
        self.assertIs(check_report(grammar, folded, count, found, report), True)
        for k in range(3):
            other = found[:k] + (not found[k] if isinstance(found[k], bool) else True,) + found[k + 1:]
            self.assertIs(check_report(grammar, folded, count, other, report), False)
        for config in all_configurations(count):
            self.assertEqual([is_in(d, config) for d in found].count(True), 1)
        return found, report

    def test_plain_ones(self):
        _, report = self.check(SUMS, FOLDED, 2, ((0, B, False), (0, NOT_B, True), False))
        self.assertEqual([paper[0] for paper in report], ["nothing", "once", "tree", "tree", "tree"])
        _, report = self.check(SUMS, folded_words("1 + 2 + 3"), 2, (False, A, NOT_A))
        self.assertEqual({paper[0] for paper in report}, {"once", "tree", "two"})

    def test_no_tokens_and_no_trees(self):
        for folded in ([], folded_words("1", False), folded_words("1 +"), folded_words("w")):
            self.check(SUMS, folded, 2, (True, False, False))
            self.check(SUMS, folded, 5, (True, False, False))

    def test_more_switches_than_are_used(self):
        found, report = self.check(SUMS, folded_words("1 + 2 + 3"), 4, (False, A, NOT_A))
        self.assertEqual(len([paper for paper in report if paper[0] == "two"]), 8)

    def test_many(self):
        for grammar, folded in some_cases(962, 400):
            found, report = self.check(grammar, folded, 2, conditions_by_definition(grammar, folded, 2))
            for paper in report:
                if paper[0] in ("tree", "two"):
                    trees = texts_trees_by_definition(grammar, folded, paper[1])
                    self.assertEqual(paper[0], "tree" if len(trees) == 1 else "two")
                    self.assertLessEqual(set(paper[2:]), set(trees))

    def test_very_many_trees(self):
        begin = time.perf_counter()
        names = ("a", "b", "c", "d", "e")
        chooser = random.Random(963)
        grammar = read_grammar(names, "start S\nrule S = S S S {a}\nrule S = S S\nrule S = word\nbar 1 1 1 {b}")
        several = 0
        for diagrams in ([], [some_diagram(chooser, 5) for _ in range(24)], [(k % 5, False, True) for k in range(24)]):
            found, report = self.check(grammar, folded_words("w " * 24, *diagrams), 5)
            several += len([paper for paper in report if paper[0] == "two"])
        self.assertGreater(several, 50)
        self.check(grammar, folded_words("w " * 23 + "+"), 5, (True, False, False))
        self.assertLess(time.perf_counter() - begin, 30)

    def test_where_few_of_very_many_derivations_are_allowed(self):
        grammar = read_grammar(AB, "start S\nrule S = P\nrule P = P P\nrule P = Q\nrule Q = word Q {a}\nrule Q = word\n"
                                   "bar 0 0 1\nbar 1 1 1 {b}")
        self.check(grammar, folded_words("w " * 24), 2, (NOT_A, A, False))
        grammar = read_grammar(AB, "start S\nrule S = S S\nrule S = word\nbar 0 1 0\nbar 0 0 0 {a&b}")
        self.check(grammar, folded_words("w " * 24), 2, ((0, False, B), (0, True, NOT_B), False))

    def test_two_trees_that_differ_far_below(self):
        lines = ["start A", "rule A = B", "rule B = C word", "rule C = D", "rule D = word E", "rule E = word", "rule E = word {a}"]
        grammar = read_grammar(AB, "\n".join(lines))
        self.check(grammar, folded_words("u v w"), 2, (False, NOT_A, A))
        grammar = read_grammar(AB, "\n".join(lines + ["rule E = word", "bar 3 1 5 {b}", "bar 3 1 6 {b}"]))
        self.check(grammar, folded_words("u v w"), 2, (False, B, NOT_B))

    def test_deep_trees(self):
        symbols = "ABCDEFGHIJ"
        lines = ["start A"] + [f"rule {s} = {t}" for s, t in zip(symbols, symbols[1:])]
        grammar = read_grammar(AB, "\n".join(lines + ["rule J = word A", "rule J = word", "rule J = word {a}"]))
        found, report = self.check(grammar, folded_words("w " * 24), 2, (False, NOT_A, A))
        self.assertEqual([paper[0] for paper in report], ["once", "tree", "tree", "two", "two"])


if __name__ == "__main__":
    unittest.main()
