import copy
import itertools
import random
import time
import unittest

from oncefolded.grammar_texts import read_grammar
from oncefolded.papers import check_paper, check_report
from tests.helper import (
    PlainPapers, all_configurations, conditions_by_definition, configs_of, derivations_by_definition,
    diagram_at_by_definition, diagram_by_definition, folded_words, is_in, reasons_by_definition, some_cases,
    some_diagram, texts_trees_by_definition)

AB = ("a", "b")
A, B = (0, False, True), (1, False, True)
NOT_A, NOT_B = (0, True, False), (1, True, False)
SUMS = read_grammar(AB, 'start S\nrule S = S "+" S right:0:2\nrule S = number\nbar 0 2 0 {a}')
# Three numbers with b, else two; there is a reason against the second tree with a.
FOLDED = folded_words("1 + 2 + 3", True, True, True, B, B)
LEFT = (0, ((0, ((1, (0,)), 1, (1, (2,)))), 3, (1, (4,))))
RIGHT = (0, ((1, (0,)), 1, (0, ((1, (2,)), 3, (1, (4,))))))
PLAIN = PlainPapers(SUMS, FOLDED, 2)


def nested(value, depth):
    for _ in range(depth):
        value = (value,)
    return value


def nested_tree(depth):
    value = 0
    for _ in range(depth // 2):
        value = (0, (value, 1, value))
    return value


def odd_values():
    """Values of other kinds, also deep ones."""
    found = ["", "word", "tree", 0, 1, -1, 2, 7, True, False, (), (0,), (0, 1), (1, (0,)), ("tree",), ((), ()),
             ("S", 0, 1), (True, False, True), (0, True, True), (0, False, 1), (2, False, True), (1, A, True), "01"]
    found += [nested(end, 600) for end in (0, "", True, ())] + [nested_tree(600)]
    deep = True
    for _ in range(600):
        deep = (0, False, deep)
    return found + [deep]


class PaperCase(unittest.TestCase):
    def taken(self, paper, grammar=SUMS, folded=FOLDED, count=2):
        kept = copy.deepcopy((grammar, folded))
        found = check_paper(grammar, folded, count, paper)
        self.assertIs(type(found), bool)
        self.assertEqual((grammar, folded), kept)
        return found

    def refuse_each_spoilt(self, paper, fine=()):
        """The paper is right, and with each element replaced by other values it is not,
        except by those for the second one that are told to be fine."""
        self.assertTrue(self.taken(paper))
        self.assertFalse(self.taken(paper[:-1]))
        self.assertFalse(self.taken(paper + ((),)))
        self.assertFalse(self.taken(list(paper)))
        for k in range(len(paper)):
            for value in odd_values():
                if value != paper[k] and not (k == 1 and value in fine):
                    self.assertFalse(self.taken(paper[:k] + (value,) + paper[k + 1:]), k)


class TreePaperTest(PaperCase):
    def test_right_ones(self):
        self.assertTrue(self.taken(("tree", (0, 0), (0, ((1, (0,)), 1, (1, (2,)))))))
        for config in ((0, 1), (1, 1)):
            self.assertTrue(self.taken(("tree", config, LEFT)))
        self.assertTrue(self.taken(("tree", (0, 1), RIGHT)))

    def test_wrong_trees(self):
        self.assertFalse(self.taken(("tree", (1, 1), RIGHT)))
        self.assertFalse(self.taken(("tree", (0, 0), RIGHT)))
        self.assertFalse(self.taken(("tree", (0, 1), (0, ((1, (0,)), 1, (1, (2,)))))))
        self.assertFalse(self.taken(("tree", (0, 1), (1, (0,)))))
        self.assertFalse(self.taken(("tree", (0, 1), (0, ((1, (False,)), 1, (0, ((1, (2,)), 3, (1, (4,)))))))))
        self.assertFalse(self.taken(("tree", (0, 1), (False, ((1, (0,)), 1, (0, ((1, (2,)), 3, (1, (4,)))))))))

    def test_other_configurations(self):
        for config in ((0,), (0, 1, 0), (), (0, 2), (0, -1), (0, True), (False, 1), (False, True), "01", [0, 1], 1,
                       ("0", "1"), ((0, 1),), (0, (1,)), A):
            self.assertFalse(self.taken(("tree", config, LEFT)), config)

    def test_other_words(self):
        for word in ("", "Tree", "trees", "two", "removed", "nothing", "once", 0, True, ("tree",)):
            self.assertFalse(self.taken((word, (0, 1), LEFT)), word)

    def test_each_element_spoilt(self):
        self.refuse_each_spoilt(("tree", (1, 1), LEFT), [(0, 1)])

    def test_a_demand(self):
        grammar = read_grammar(AB, 'start S\nrule S = S "+" S right:2:0\nrule S = number')
        folded = folded_words("1 + 2")
        tree = (0, ((1, (0,)), 1, (1, (2,))))
        self.assertFalse(self.taken(("tree", (0, 0), tree), grammar, folded))
        self.assertTrue(self.taken(("removed", (0, 0), tree, ("demand", (), 0)), grammar, folded))

    def test_no_tokens(self):
        for tree in ((), (0, ()), (1, (0,)), 0):
            self.assertFalse(self.taken(("tree", (0, 0), tree), SUMS, []))

    def test_deep_trees(self):
        symbols = "ABCDEFGHIJK"
        lines = ["start A"] + [f"rule {s} = {t}" for s, t in zip(symbols, symbols[1:])]
        grammar = read_grammar(AB, "\n".join(lines + ["rule K = word A", "rule K = word"]))
        folded = folded_words("w " * 24)
        tree = None
        for index in reversed(range(24)):
            tree = (11, (index,)) if tree is None else (10, (index, tree))
            for rule in reversed(range(10)):
                tree = (rule, (tree,))
        self.assertTrue(self.taken(("tree", (0, 0), tree), grammar, folded))
        self.assertFalse(self.taken(("two", (0, 0), tree, tree), grammar, folded))

    def test_many(self):
        some = 0
        for grammar, folded in some_cases(941, 300):
            for config in all_configurations(2):
                wanted = texts_trees_by_definition(grammar, folded, config)
                others = derivations_by_definition(grammar, folded, (1 - config[0], config[1]))
                for tree in derivations_by_definition(grammar, folded, config) + others:
                    self.assertEqual(self.taken(("tree", config, tree), grammar, folded), tree in wanted)
                some += len(wanted)
        self.assertGreater(some, 100)


class TwoPaperTest(PaperCase):
    def test_right_ones(self):
        self.assertTrue(self.taken(("two", (0, 1), LEFT, RIGHT)) != self.taken(("two", (0, 1), RIGHT, LEFT)))
        self.assertTrue(self.taken(("two", (0, 1), *sorted((LEFT, RIGHT)))))

    def test_wrong_ones(self):
        first, second = sorted((LEFT, RIGHT))
        self.assertFalse(self.taken(("two", (0, 1), second, first)))
        self.assertFalse(self.taken(("two", (0, 1), first, first)))
        self.assertFalse(self.taken(("two", (0, 1), second, second)))
        self.assertFalse(self.taken(("two", (1, 1), first, second)))
        self.assertFalse(self.taken(("two", (0, 0), first, second)))
        self.assertFalse(self.taken(("two", (0, 1), (0, ((1, (0,)), 1, (1, (2,)))), second)))
        self.assertFalse(self.taken(("two", (0, 1), first)))
        self.assertFalse(self.taken(("two", (0, 1), first, second, second)))
        for config in ((0,), (0, 1, 0), (False, True), (0, 2)):
            self.assertFalse(self.taken(("two", config, first, second)))

    def test_each_element_spoilt(self):
        self.refuse_each_spoilt(("two", (0, 1), *sorted((LEFT, RIGHT))))

    def test_many(self):
        some = 0
        for grammar, folded in some_cases(942, 600):
            for config in all_configurations(2):
                right = texts_trees_by_definition(grammar, folded, config)[:6]
                trees = derivations_by_definition(grammar, folded, config)[:8]
                for one, other in itertools.product(trees, repeat=2):
                    wanted = one in right and other in right and one < other
                    if one in right and other in right or one not in texts_trees_by_definition(grammar, folded, config):
                        self.assertEqual(self.taken(("two", config, one, other), grammar, folded), wanted)
                        some += wanted
        self.assertGreater(some, 100)


class RemovedPaperTest(PaperCase):
    def test_right_ones(self):
        self.assertTrue(self.taken(("removed", (1, 1), RIGHT, ("bar", (), 2))))

    def test_wrong_ones(self):
        for reason in (("bar", (), 0), ("bar", (2,), 2), ("demand", (), 0), ("bar", (), True), ("bar", (False,), 2),
                       ("bar", (), 2, 0), ("bar", ()), ("bars", (), 2), ("bar", [], 2), ("bar", 0, 2), ("bar", (), "2"),
                       ["bar", (), 2], (("bar",), (), 2), ("bar", ((),), 2), ("bar", ("",), 2), ("bar", (), -1)):
            self.assertFalse(self.taken(("removed", (1, 1), RIGHT, reason)), reason)
        self.assertFalse(self.taken(("removed", (0, 1), RIGHT, ("bar", (), 2))))
        self.assertFalse(self.taken(("removed", (1, 1), LEFT, ("bar", (), 2))))
        self.assertFalse(self.taken(("removed", (1, 0), RIGHT, ("bar", (), 2))))
        self.assertFalse(self.taken(("removed", (1, 1), RIGHT)))
        self.assertFalse(self.taken(("removed", (1, 1, 0), RIGHT, ("bar", (), 2))))
        self.assertFalse(self.taken(("removed", (1, True), RIGHT, ("bar", (), 2))))

    def test_true_in_the_place_of_one(self):
        grammar = read_grammar(AB, "start S\nrule S = word S glued:0 glued:1\nrule S = word\nbar 0 1 1")
        folded = folded_words("u v w")
        tree = (0, (0, (0, (1, (1, (2,))))))
        for reason in reasons_by_definition(grammar, folded, (0, 0), tree):
            self.assertTrue(self.taken(("removed", (0, 0), tree, reason), grammar, folded))
        for reason in (("demand", (True,), 1), ("demand", (1,), True), ("demand", (), False), ("bar", (True,), 1)):
            self.assertFalse(self.taken(("removed", (0, 0), tree, reason), grammar, folded))

    def test_each_element_spoilt(self):
        self.refuse_each_spoilt(("removed", (1, 1), RIGHT, ("bar", (), 2)))

    def test_many(self):
        some = 0
        for grammar, folded in some_cases(943, 300):
            reasons = [(word, path, k) for word in ("bar", "demand") for path in ((), (0,), (1,), (0, 0), (1, 0))
                       for k in range(3)]
            for config in all_configurations(2):
                for tree in derivations_by_definition(grammar, folded, config)[:8]:
                    told = reasons_by_definition(grammar, folded, config, tree)
                    for reason in reasons + told:
                        found = self.taken(("removed", config, tree, reason), grammar, folded)
                        self.assertEqual(found, reason in told)
                        some += found
        self.assertGreater(some, 300)


class RowsTest(PaperCase):
    """Papers with rows for the text of this file: one tree where b is not, then one with a."""
    def test_right_ones(self):
        grammar, folded = SUMS, folded_words("1 + + 2", True, True, B, True)
        plain = PlainPapers(grammar, folded, 2)
        paper = plain.paper("nothing", configs_of(B, 2))
        self.assertGreater(len(paper[2]), 3)
        self.assertTrue(self.taken(paper, grammar, folded))
        self.assertFalse(self.taken(("nothing", True, paper[2]), grammar, folded))
        paper = PLAIN.paper("once", configs_of((0, NOT_B, True), 2))
        self.assertTrue(self.taken(paper))
        self.assertFalse(self.taken(("once", True, paper[2])))

    def test_no_rows(self):
        for word in ("nothing", "once"):
            self.assertTrue(self.taken((word, False, ())))
            self.assertFalse(self.taken((word, True, ())))
            self.assertFalse(self.taken((word, (0, False, B), ())))
            self.assertTrue(self.taken((word, True, ()), SUMS, []))

    def test_no_rows_where_no_item_can_be_made(self):
        for word in ("nothing", "once"):
            self.assertTrue(self.taken((word, True, ()), SUMS, folded_words("w + w")))
            self.assertTrue(self.taken((word, NOT_A, ()), SUMS, folded_words("1 + 2", A, True, A)))
            self.assertFalse(self.taken((word, A, ()), SUMS, folded_words("1 + 2", A, True, A)))

    def test_each_row_left_out_or_made_smaller(self):
        for paper in (PLAIN.paper("once", configs_of((0, NOT_B, True), 2)), PLAIN.paper("once", {(0, 0)}),
                      PlainPapers(SUMS, FOLDED[:4], 2).paper("nothing", configs_of(B, 2))):
            folded = FOLDED if paper[0] == "once" else FOLDED[:4]
            self.assertTrue(self.taken(paper, SUMS, folded))
            for k, row in enumerate(paper[2]):
                rest = paper[2][:k], paper[2][k + 1:]
                self.assertFalse(self.taken(paper[:2] + (rest[0] + rest[1],), SUMS, folded))
                self.assertFalse(self.taken(paper[:2] + (rest[0] + (row, row) + rest[1],), SUMS, folded))
                self.assertFalse(self.taken(paper[:2] + (rest[1] + (row,) + rest[0],), SUMS, folded)
                                 and len(paper[2]) > 1)
                for place in range(3, len(row)):
                    for config in configs_of(row[place], 2):
                        fewer = diagram_by_definition(configs_of(row[place], 2) - {config}, 2)
                        spoilt = row[:place] + (fewer,) + row[place + 1:]
                        self.assertFalse(self.taken(paper[:2] + (rest[0] + (spoilt,) + rest[1],), SUMS, folded))

    def test_what_claims_more_is_still_right(self):
        paper = PLAIN.paper("once", {(0, 0)})
        rows = [row[:3] + (True, row[4]) if row[:3] == (0, (2,), 3) else row for row in paper[2]]
        self.assertTrue(self.taken(("once", paper[1], tuple(rows))))
        self.assertEqual(PLAIN.is_right(("once", paper[1], tuple(rows))), True)

    def test_a_covering_item_that_holds(self):
        folded = folded_words("1 + 2", True, A, A)
        plain = PlainPapers(SUMS, folded, 2)
        for word in ("nothing", "once"):
            paper = plain.paper(word, configs_of(True, 2))
            self.assertEqual(self.taken(paper, SUMS, folded), word == "once")
        paper = PlainPapers(SUMS, folded[:2], 2).paper("nothing", configs_of(A, 2))
        self.assertTrue(self.taken(paper, SUMS, folded[:2]))
        # So much may be claimed that an item that cannot be made covers the text.
        more = paper[:2] + (tuple(sorted(paper[2] + ((0, (0, 1, 1), 2, True),))),)
        self.assertFalse(self.taken(more, SUMS, folded[:2]))
        grammar = read_grammar(AB, "start S\nrule S = word word\nrule S = number")
        paper = ("nothing", True, ((0, (0,), 1, True),))
        self.assertTrue(self.taken(paper, grammar, folded_words("w")))
        self.assertFalse(self.taken(("nothing", True, paper[2] + ((1, (0,), 1, A),)), grammar, folded_words("w")))
        self.assertTrue(self.taken(("nothing", NOT_A, paper[2] + ((1, (0,), 1, A),)), grammar, folded_words("w")))

    def test_two_covering_items_that_hold_together(self):
        grammar = read_grammar(AB, "start S\nrule S = word\nrule S = word {a}")
        folded = folded_words("w")
        rows = ((0, (0,), 1, True, True), (1, (0,), 1, A, A))
        self.assertFalse(self.taken(("once", True, rows), grammar, folded))
        self.assertFalse(self.taken(("once", A, rows), grammar, folded))
        self.assertTrue(self.taken(("once", NOT_A, rows), grammar, folded))
        self.assertTrue(self.taken(("once", NOT_A, rows[:1]), grammar, folded))
        self.assertFalse(self.taken(("once", True, rows[:1]), grammar, folded))

    def test_two_lower_items_that_hold_together(self):
        grammar = read_grammar(AB, "start S\nrule S = T\nrule T = word\nrule T = word {a}\nrule U = word\nbar 0 0 1 {b}")
        folded = folded_words("w")
        t, u = ((1, (0,), 1, True, NOT_B), (2, (0,), 1, A, A)), ((3, (0,), 1, True, False),)
        self.assertFalse(self.taken(("once", True, ((0, (0,), 1, True, True),) + t + u), grammar, folded))
        self.assertFalse(self.taken(("once", (0, False, NOT_B), ((0, (0,), 1, True, True),) + t + u), grammar, folded))
        for d in (NOT_A, (0, False, B), (0, True, B)):
            wanted = diagram_by_definition(configs_of(d, 2), 2)
            self.assertTrue(self.taken(("once", d, ((0, (0,), 1, True, wanted),) + t + u), grammar, folded), d)

    def test_needs_that_are_too_small(self):
        grammar = read_grammar(AB, "start S\nrule S = T word\nrule T = word")
        folded = folded_words("v w")
        rows = ((0, (0,), 1, True, True), (0, (0, 1), 2, True, True), (0, (1,), 2, True, False),
                (1, (0,), 1, True, True), (1, (1,), 2, True, False))
        self.assertTrue(self.taken(("once", True, rows), grammar, folded))
        # The item that covers the text, its earlier item, and the lower one of that.
        for k in (1, 0, 3):
            for need in (False, A, NOT_B):
                spoilt = rows[:k] + (rows[k][:4] + (need,),) + rows[k + 1:]
                self.assertFalse(self.taken(("once", True, spoilt), grammar, folded))
                # Only the item that covers the text is asked where the diagram of the paper holds.
                self.assertEqual(self.taken(("once", A, spoilt), grammar, folded), False if k != 1 else need is A)

    def test_each_element_spoilt(self):
        self.refuse_each_spoilt(PLAIN.paper("once", configs_of((0, NOT_B, True), 2)), [False])
        folded = FOLDED[:4]
        paper = PlainPapers(SUMS, folded, 2).paper("nothing", configs_of(B, 2))
        self.assertTrue(self.taken(paper, SUMS, folded))
        for value in odd_values():
            self.assertFalse(self.taken((value,) + paper[1:], SUMS, folded))
            self.assertFalse(self.taken(paper[:2] + (value,), SUMS, folded))
            if not isinstance(value, bool):
                self.assertFalse(self.taken((paper[0], value, paper[2]), SUMS, folded))

    def test_diagrams_that_are_none(self):
        for paper in (PLAIN.paper("once", {(0, 0), (1, 0)}), PLAIN.paper("once", {(1, 1)})):
            for k, row in enumerate(paper[2]):
                for place in (3, 4):
                    for value in (1, 0, "", None, (), (0, True, True), (2, False, True), (1, A, True), (0, False, 1),
                                  (True, False, True), (-1, False, True), (0, False, (2, False, True)), ("a", False, True)):
                        spoilt = row[:place] + (value,) + row[place + 1:]
                        rows = paper[2][:k] + (spoilt,) + paper[2][k + 1:]
                        self.assertFalse(self.taken(paper[:2] + (rows,)))
        self.assertFalse(self.taken(("nothing", (2, False, True), ())))
        self.assertFalse(self.taken(("nothing", 0, ())))

    def test_items_that_are_none(self):
        grammar, folded = SUMS, folded_words("w + w")
        for word, rest in (("nothing", (True,)), ("once", (True, True))):
            for item in ((0, (0,), 1), (0, (0,), 3), (0, (0, 1), 2), (0, (0, 1, 2), 3), (1, (2,), 3), (0, (0, 2), 3)):
                # Such a row may stand there where the diagram of the paper never holds.
                self.assertTrue(self.taken((word, False, (item + rest,)), grammar, folded), item)
            for item in ((2, (0,), 1), (-1, (0,), 1), (True, (0,), 1), ("0", (0,), 1), (0, (), 1), (1, (0, 1), 2),
                         (0, (0, 0), 1), (0, (1, 0), 2), (0, (0, 1, 2, 3), 4), (0, (0,), 0), (0, (0, 1), 1), (0, (0,), 4),
                         (0, (3,), 4), (0, (-1,), 1), (0, (False,), 1), (0, (0,), True), (0, [0], 1), (0, 0, 1),
                         (0, ("0",), 1), (0, (0,), "1"), ((0,), (0,), 1), (0, ((0,),), 1), (0, (0,), (1,))):
                self.assertFalse(self.taken((word, False, (item + rest,)), grammar, folded), item)
            for row in ((0, (0,), 1), (0, (0,), 1) + rest + (True,), (), 0, "row", True, [0, (0,), 1, *rest]):
                self.assertFalse(self.taken((word, False, (row,)), grammar, folded), row)
            for row in odd_values():
                self.assertFalse(self.taken((word, False, (row,)), grammar, folded))
                for place in range(3):
                    spoilt = ((0, (0,), 1)[:place] + (row,) + (0, (0,), 1)[place + 1:]) + rest
                    if spoilt[:3] not in ((0, (0,), 1), (1, (0,), 1), (0, (0,), 2), (0, (0, 1), 1)):
                        self.assertFalse(self.taken((word, False, (spoilt,)), grammar, folded), place)

    def test_rows_ascend(self):
        rows = ((0, (0,), 1), (0, (0,), 2), (0, (0, 1), 2), (0, (1,), 2), (1, (0,), 1))
        for word, rest in (("nothing", (True,)), ("once", (True, True))):
            for order in itertools.permutations(range(5), 3):
                paper = (word, False, tuple(rows[k] + rest for k in order))
                self.assertEqual(self.taken(paper), list(order) == sorted(order))
            self.assertFalse(self.taken((word, False, (rows[0] + (A,) * len(rest), rows[0] + (True,) * len(rest)))))
            self.assertFalse(self.taken((word, False, (rows[0] + (False,) * len(rest), rows[0] + (True,) * len(rest)))))

    def test_another_text_or_grammar(self):
        paper = PLAIN.paper("once", configs_of((0, NOT_B, True), 2))
        self.assertTrue(self.taken(paper))
        self.assertFalse(self.taken(paper, read_grammar(AB, 'start S\nrule S = S "+" S\nrule S = number')))
        self.assertFalse(self.taken(paper, SUMS, folded_words("1 + 2 + 3")))
        self.assertFalse(self.taken(paper, SUMS, FOLDED[:3]))


class DrawnRowsTest(PaperCase):
    def drawn(self, chooser, plain, word):
        """A paper that has the right form, mostly almost right."""
        where = configs_of(some_diagram(chooser, 2, chooser.choice((0.2, 0.5, 0.9))), 2)
        _, d, rows = plain.paper(word, where)
        found = {row[:3]: list(row[3:]) for row in rows}
        if chooser.random() < 0.3:
            d = some_diagram(chooser, 2)
        for _ in range(chooser.choice((0, 1, 1, 2, 5))):
            item = chooser.choice(plain.items)
            if item in found and chooser.random() < 0.3:
                del found[item]
            else:
                told = found.setdefault(item, [False] * (1 if word == "nothing" else 2))
                k = chooser.randrange(len(told))
                more = configs_of(told[k], 2) ^ {chooser.choice(all_configurations(2))}
                told[k] = diagram_by_definition(more, 2)
        return (word, d, tuple(item + tuple(found[item]) for item in sorted(found)))

    def test_many(self):
        chooser = random.Random(951)
        many = {(word, right): 0 for word in ("nothing", "once") for right in (False, True)}
        for grammar, folded in some_cases(952, 120, 4):
            plain = PlainPapers(grammar, folded, 2)
            trees = {c: len(texts_trees_by_definition(grammar, folded, c)) for c in all_configurations(2)}
            for word, most in (("nothing", 0), ("once", 1)):
                for _ in range(12):
                    paper = self.drawn(chooser, plain, word)
                    found = self.taken(paper, grammar, folded)
                    self.assertEqual(found, plain.is_right(paper), (grammar, folded, paper))
                    many[word, found] += 1
                    if found:
                        for config in configs_of(paper[1], 2):
                            self.assertLessEqual(trees[config], most)
        self.assertGreater(min(many.values()), 200, many)

    def test_rows_drawn_at_random(self):
        chooser = random.Random(953)
        taken = 0
        for grammar, folded in some_cases(954, 120, 3):
            plain = PlainPapers(grammar, folded, 2)
            for word, most in (("nothing", 0), ("once", 1)):
                for _ in range(8):
                    share = chooser.choice((0.3, 0.8, 1))
                    items = [item for item in plain.items if chooser.random() < share]
                    rest = 1 if word == "nothing" else 2
                    rows = tuple(item + tuple(some_diagram(chooser, 2, share) for _ in range(rest)) for item in items)
                    paper = (word, some_diagram(chooser, 2, 0.3), rows)
                    found = self.taken(paper, grammar, folded)
                    self.assertEqual(found, plain.is_right(paper))
                    taken += found
                    for config in configs_of(paper[1], 2) if found else ():
                        self.assertLessEqual(len(texts_trees_by_definition(grammar, folded, config)), most)
        self.assertGreater(taken, 100)

    def test_the_smallest_rows_are_right_where_there_is_such_a_paper(self):
        for grammar, folded in some_cases(955, 120, 4):
            plain = PlainPapers(grammar, folded, 2)
            none, one, _ = conditions_by_definition(grammar, folded, 2)
            for config in all_configurations(2):
                for word, wanted in (("nothing", is_in(none, config)), ("once", is_in(none, config) or is_in(one, config))):
                    self.assertEqual(self.taken(plain.paper(word, {config}), grammar, folded), wanted)

    def test_twenty_four_tokens_are_quick(self):
        chooser = random.Random(956)
        grammar = read_grammar(AB, "start S\nrule S = S S S\nrule S = S S\nrule S = word")
        folded = folded_words("w " * 24, *[some_diagram(chooser, 2) for _ in range(24)])
        items = [(0, begins, end) for begins in itertools.combinations(range(24), 3) for end in range(begins[-1] + 1, 25)]
        begin = time.perf_counter()
        rows = tuple(item + (True, True) for item in items)
        self.assertTrue(self.taken(("once", False, rows), grammar, folded) in (True, False))
        self.assertFalse(self.taken(("nothing", True, tuple(row[:4] for row in rows)), grammar, folded))
        self.assertLess(time.perf_counter() - begin, 10)


class ReportTest(unittest.TestCase):
    def papers_of(self, grammar, folded):
        """The conditions and the papers of a report that shows them, by the definition."""
        plain = PlainPapers(grammar, folded, 2)
        found = conditions_by_definition(grammar, folded, 2)
        papers = [plain.paper("nothing", configs_of(found[0], 2)), plain.paper("once", configs_of(found[1], 2))]
        for config in sorted(configs_of(found[1], 2)):
            papers.append(("tree", config, texts_trees_by_definition(grammar, folded, config)[0]))
        for config in sorted(configs_of(found[2], 2)):
            papers.append(("two", config, *texts_trees_by_definition(grammar, folded, config)[:2]))
        return found, papers

    def shows(self, grammar, folded, found, papers):
        answer = check_report(grammar, folded, 2, found, papers if isinstance(papers, (str, int)) else tuple(papers))
        self.assertIs(type(answer), bool)
        return answer

    def test_plain_ones(self):
        self.assertTrue(check_report(SUMS, [], 2, (True, False, False), (("nothing", True, ()),)))
        self.assertFalse(check_report(SUMS, [], 2, (True, False, False), ()))
        self.assertFalse(check_report(SUMS, [], 2, (False, True, False), (("nothing", True, ()),)))
        self.assertFalse(check_report(SUMS, [], 2, (NOT_A, False, False), (("nothing", True, ()),)))
        self.assertTrue(check_report(SUMS, [], 2, (True, False, False), (("nothing", A, ()), ("nothing", NOT_A, ()))))
        self.assertFalse(check_report(SUMS, [], 2, (True, False, False), (("nothing", A, ()), ("nothing", B, ()))))
        # By the words of 8.5, an empty report shows three diagrams that never hold.
        self.assertTrue(check_report(SUMS, [], 2, (False, False, False), ()))

    def test_all_kinds_at_once(self):
        grammar = read_grammar(AB, 'start S\nrule S = S "+" S\nrule S = number\nbar 0 2 0 {b}')
        folded = folded_words("1 + 2 + 3 +", True, True, True, True, True, (0, NOT_B, False))
        found, papers = self.papers_of(grammar, folded)
        self.assertTrue(all(d is not False for d in found))
        self.assertTrue(self.shows(grammar, folded, found, papers))
        self.assertTrue(self.shows(grammar, folded, found, papers[::-1]))
        self.assertTrue(self.shows(grammar, folded, found, papers * 2))
        self.assertEqual({paper[0] for paper in papers}, {"nothing", "once", "tree", "two"})
        for k, paper in enumerate(papers):
            self.assertFalse(self.shows(grammar, folded, found, papers[:k] + papers[k + 1:]), paper)
            for spoilt in (paper[:-1], paper + (0,), (paper[0], "") + paper[2:], paper[:2] + ("",) + paper[3:], (), "paper", 0):
                self.assertFalse(self.shows(grammar, folded, found, papers[:k] + [spoilt] + papers[k + 1:]))
                self.assertFalse(self.shows(grammar, folded, found, papers + [spoilt]))
        self.assertFalse(check_report(grammar, folded, 2, found, list(papers)))

    def test_what_is_no_tuple(self):
        for value in ("", "report", 0, 1, True, False):
            self.assertIs(check_report(SUMS, [], 2, (False, False, False), value), False)
        for value in odd_values():
            if value != ():
                self.assertIs(check_report(SUMS, [], 2, (False, False, False), value), False)

    def test_a_paper_that_is_removed(self):
        found, papers = self.papers_of(SUMS, FOLDED)
        removed = ("removed", (1, 1), RIGHT, ("bar", (), 2))
        self.assertTrue(check_paper(SUMS, FOLDED, 2, removed))
        self.assertTrue(self.shows(SUMS, FOLDED, found, papers))
        self.assertFalse(self.shows(SUMS, FOLDED, found, papers + [removed]))

    def test_a_paper_beyond_the_conditions(self):
        # "once" is right also where there is no tree, but then it shows too much.
        found, papers = self.papers_of(SUMS, FOLDED)
        self.assertIs(found[0], False)
        self.assertFalse(self.shows(SUMS, FOLDED, found, papers + [("tree", (0, 1), LEFT)]))
        folded = folded_words("1", A)
        found, papers = self.papers_of(SUMS, folded)
        more = PlainPapers(SUMS, folded, 2).paper("once", configs_of(True, 2))
        self.assertTrue(check_paper(SUMS, folded, 2, more))
        self.assertTrue(self.shows(SUMS, folded, found, papers))
        self.assertFalse(self.shows(SUMS, folded, found, papers + [more]))

    def test_other_conditions(self):
        found, papers = self.papers_of(SUMS, FOLDED)
        self.assertTrue(self.shows(SUMS, FOLDED, found, papers))
        others = [False, True, A, B, NOT_A, NOT_B, (0, NOT_B, True), (0, B, False)]
        for k in range(3):
            for d in others:
                if d != found[k]:
                    self.assertFalse(self.shows(SUMS, FOLDED, found[:k] + (d,) + found[k + 1:], papers))
        for order in itertools.permutations(found):
            self.assertEqual(self.shows(SUMS, FOLDED, order, papers), order == found)

    def test_many(self):
        for grammar, folded in some_cases(957, 120, 4):
            found, papers = self.papers_of(grammar, folded)
            kept = copy.deepcopy((grammar, folded, found, papers))
            self.assertTrue(self.shows(grammar, folded, found, papers))
            for k, (word, where, *_) in enumerate(papers):
                fewer = papers[:k] + papers[k + 1:]
                self.assertEqual(self.shows(grammar, folded, found, fewer), where is False)
            self.assertEqual((grammar, folded, found, papers), kept)

    def test_papers_that_share_what_they_show(self):
        found, papers = self.papers_of(SUMS, FOLDED)
        parts = [PLAIN.paper("once", {config}) for config in configs_of(found[1], 2)]
        self.assertTrue(self.shows(SUMS, FOLDED, found, parts + papers))
        rest = [paper for paper in papers if paper[0] != "once"]
        self.assertTrue(self.shows(SUMS, FOLDED, found, parts + rest))
        self.assertFalse(self.shows(SUMS, FOLDED, found, parts[1:] + rest))
        self.assertEqual([paper[1] for paper in parts], [diagram_at_by_definition(c) for c in configs_of(found[1], 2)])


if __name__ == "__main__":
    unittest.main()
