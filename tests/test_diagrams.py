import copy
import itertools
import random
import unittest

from oncefolded.diagrams import (
    both, chosen, diagram_at, diagram_of, either, holds, how_many, is_diagram, least, negated,
    switch, written)
from oncefolded.formulas import read_formula
from tests.helper import (
    NAMES, all_configurations, all_sets, conjunction, diagram_by_definition, ends, formula_of,
    some_sets)

SETS = {1: list(all_sets(1)), 2: list(all_sets(2)), 3: list(all_sets(3)),
        4: some_sets(4, 300), 5: some_sets(5, 300)}


def other_formula(switches, configs):
    """Another formula of the same set: no configuration outside of it."""
    formula = ("yes",)
    for config in sorted(set(all_configurations(len(switches))) - configs, reverse=True):
        formula = ("and", ("not", conjunction(switches, config)), formula)
    return formula


class DiagramCase(unittest.TestCase):
    def same(self, found, wanted, told=None):
        """Equal, and nothing in it is an integer in the place of a truth."""
        self.assertEqual(found, wanted, told)
        for end in ends(found):
            self.assertIs(type(end), bool, told)

    def is_of_set(self, found, configs, count):
        self.same(found, diagram_by_definition(configs, count), (configs, found))


class DiagramOfTest(DiagramCase):
    def test_every_set_has_one_diagram(self):
        for count, sets in SETS.items():
            names = NAMES[:count]
            for configs in sets:
                self.is_of_set(diagram_of(names, formula_of(names, configs)), configs, count)
                self.is_of_set(diagram_of(names, other_formula(names, configs)), configs, count)

    def test_equal_sets_and_no_others_have_equal_diagrams(self):
        for count in (1, 2, 3):
            names = NAMES[:count]
            found = {repr(diagram_of(names, formula_of(names, configs))) for configs in SETS[count]}
            self.assertEqual(len(found), 2 ** 2 ** count)

    def test_plain_formulas(self):
        names = ("a", "b")
        self.same(diagram_of(names, ("yes",)), True)
        self.same(diagram_of(names, ("no",)), False)
        self.same(diagram_of(names, ("switch", "a")), (0, False, True))
        self.same(diagram_of(names, ("switch", "b")), (1, False, True))
        self.same(diagram_of(names, ("not", ("switch", "b"))), (1, True, False))
        self.same(diagram_of(names, read_formula(names, "a | !a")), True)
        self.same(diagram_of(names, read_formula(names, "a & !a")), False)
        self.same(diagram_of(names, read_formula(names, "a & b | !a & b")), (1, False, True))

    def test_a_deep_formula(self):
        deep = ("switch", "b")
        for _ in range(3001):
            deep = ("not", deep)
        self.same(diagram_of(("a", "b"), deep), (1, True, False))

    def test_the_example_of_the_document(self):
        d = diagram_of(("a", "b"), read_formula(("a", "b"), "a | !b"))
        self.same(d, (0, (1, True, False), True))
        self.assertEqual(written(("a", "b"), d), "a?1:(b?0:1)")


class OperationsTest(DiagramCase):
    def test_switch(self):
        for i in range(5):
            self.same(switch(i), (i, False, True))
            for count in range(i + 1, 6):
                configs = {c for c in all_configurations(count) if c[i] == 1}
                self.is_of_set(switch(i), configs, count)

    def test_diagram_at(self):
        self.same(diagram_at((0,)), (0, True, False))
        self.same(diagram_at((1, 0)), (0, False, (1, True, False)))
        for count in range(1, 6):
            for config in all_configurations(count):
                self.is_of_set(diagram_at(config), {config}, count)

    def test_negated(self):
        for count, sets in SETS.items():
            everything = set(all_configurations(count))
            for configs in sets:
                d = diagram_by_definition(configs, count)
                self.is_of_set(negated(d), everything - configs, count)
                self.same(negated(negated(d)), d)

    def pairs(self):
        chooser = random.Random(11)
        for count, sets in SETS.items():
            if count < 3:
                yield from ((count, s, t) for s, t in itertools.product(sets, repeat=2))
            else:
                for s in sets:
                    yield from ((count, s, t) for t in chooser.sample(sets, 12))
                    yield count, s, s
                    yield count, s, frozenset(all_configurations(count)) - s

    def test_both_and_either(self):
        for count, s, t in self.pairs():
            d, e = diagram_by_definition(s, count), diagram_by_definition(t, count)
            self.is_of_set(both(d, e), s & t, count)
            self.is_of_set(either(d, e), s | t, count)

    def test_laws(self):
        for count, s, t in itertools.islice(self.pairs(), 0, None, 7):
            d, e = diagram_by_definition(s, count), diagram_by_definition(t, count)
            self.same(both(d, e), both(e, d))
            self.same(either(d, e), either(e, d))
            self.same(negated(both(d, e)), either(negated(d), negated(e)))
            self.same(both(d, negated(d)), False)
            self.same(either(d, negated(d)), True)
            self.same(either(both(d, e), both(d, negated(e))), d)

    def test_true_and_false(self):
        for d, e in itertools.product((True, False), repeat=2):
            self.same(both(d, e), d and e)
            self.same(either(d, e), d or e)
        self.same(negated(True), False)
        self.same(negated(False), True)
        for i in range(5):
            self.same(both(True, switch(i)), switch(i))
            self.same(both(switch(i), True), switch(i))
            self.same(both(False, switch(i)), False)
            self.same(both(switch(i), False), False)
            self.same(either(True, switch(i)), True)
            self.same(either(switch(i), True), True)
            self.same(either(False, switch(i)), switch(i))
            self.same(either(switch(i), False), switch(i))


class AskedTest(DiagramCase):
    def test_holds_chosen_least_and_how_many(self):
        for count, sets in SETS.items():
            for configs in sets:
                d = diagram_by_definition(configs, count)
                for config in all_configurations(count):
                    self.assertIs(holds(d, config), config in configs)
                found = chosen(d, count)
                self.assertIsInstance(found, list)
                self.assertEqual(found, sorted(configs))
                self.assertEqual(least(d, count), min(configs, default=None))
                many = how_many(d, count)
                self.assertEqual(many, len(configs))
                self.assertIs(type(many), int)

    def test_configurations_are_tuples_of_integers(self):
        for config in chosen(switch(1), 3) + [least(switch(1), 3), least(True, 2)]:
            self.assertIs(type(config), tuple)
            self.assertTrue(all(type(bit) is int for bit in config))

    def test_true_and_false(self):
        self.assertIs(holds(True, (0,)), True)
        self.assertIs(holds(False, (1,)), False)
        self.assertEqual(chosen(False, 3), [])
        self.assertIsNone(least(False, 3))
        self.assertEqual(how_many(False, 5), 0)
        self.assertEqual(chosen(True, 1), [(0,), (1,)])
        self.assertEqual(least(True, 3), (0, 0, 0))
        self.assertEqual(how_many(True, 5), 32)

    def test_switches_that_are_not_in_the_diagram_count(self):
        self.assertEqual(how_many(switch(0), 1), 1)
        self.assertEqual(how_many(switch(0), 5), 16)
        self.assertEqual(chosen(switch(1), 2), [(0, 1), (1, 1)])
        self.assertEqual(least(switch(2), 4), (0, 0, 1, 0))


class WrittenTest(unittest.TestCase):
    def test_true_and_false(self):
        self.assertEqual(written(("a",), True), "1")
        self.assertEqual(written(("a",), False), "0")

    def test_single_switches(self):
        for i in range(5):
            self.assertEqual(written(NAMES, switch(i)), NAMES[i] + "?1:0")
            self.assertEqual(written(NAMES, negated(switch(i))), NAMES[i] + "?0:1")

    def test_tuples_in_both_places(self):
        names = ("a", "bb", "ccc")
        self.assertEqual(written(names, (0, (1, True, False), True)), "a?1:(bb?0:1)")
        self.assertEqual(written(names, (0, False, (2, False, True))), "a?(ccc?1:0):0")
        self.assertEqual(written(names, (0, (1, True, False), (1, False, True))), "a?(bb?1:0):(bb?0:1)")
        self.assertEqual(
            written(names, (0, (1, False, (2, True, False)), (1, (2, False, True), True))),
            "a?(bb?1:(ccc?1:0)):(bb?(ccc?0:1):0)")

    def test_it_tells_diagrams_apart(self):
        for count, sets in SETS.items():
            found = {}
            for configs in sets:
                found.setdefault(written(NAMES[:count], diagram_by_definition(configs, count)), set()).add(configs)
            self.assertTrue(all(len(group) == 1 for group in found.values()))


class IsDiagramTest(unittest.TestCase):
    def refuses(self, value, count):
        self.assertIs(is_diagram(value, count), False, (value, count))

    def test_each_diagram_is_one(self):
        for count, sets in SETS.items():
            for configs in sets:
                d = diagram_by_definition(configs, count)
                self.assertIs(is_diagram(d, count), True)
                self.assertIs(is_diagram(d, 5), True)
        for count in range(1, 6):
            for d in [True, False] + [switch(i) for i in range(count)]:
                self.assertIs(is_diagram(d, count), True)

    def test_what_the_functions_return(self):
        names = ("a", "b", "c")
        texts = ("a | !b", "a & b | c", "!(a | c) & b", "a & !a", "1", "(a | b) & (b | c)")
        for text in texts:
            d = diagram_of(names, read_formula(names, text))
            for found in (d, negated(d), both(d, switch(2)), either(d, diagram_at((0, 1, 0)))):
                self.assertIs(is_diagram(found, 3), True)

    def test_indexes_that_are_too_great_or_negative(self):
        for count in range(1, 6):
            for i in (count, count + 1, 1000, -1, -count):
                self.refuses((i, False, True), count)
                self.refuses((0, False, (i, False, True)), count)
        self.refuses((0, (1, False, True), True), 1)

    def test_indexes_that_are_no_integers(self):
        for i in (True, False, "0", "", (), (0,), (0, False, True)):
            self.refuses((i, False, True), 5)
            self.refuses((0, False, (i, False, True)), 5)
        self.refuses((0, False, (True, False, True)), 2)
        self.refuses((0, (True, False, True), True), 2)

    def test_indexes_that_do_not_ascend(self):
        self.refuses((0, (0, False, True), True), 5)
        self.refuses((0, False, (0, False, True)), 5)
        self.refuses((2, (1, False, True), True), 5)
        self.refuses((2, False, (0, False, True)), 5)
        self.refuses((0, (3, False, (3, False, True)), True), 5)
        self.refuses((0, (3, (2, False, True), True), True), 5)

    def test_equal_parts(self):
        self.refuses((0, True, True), 5)
        self.refuses((0, False, False), 5)
        self.refuses((0, (1, False, True), (1, False, True)), 5)
        self.refuses((0, False, (1, True, True)), 5)
        self.refuses((0, (1, False, (2, True, True)), True), 5)

    def test_tuples_of_other_lengths(self):
        for value in ((), (0,), (0, False), (0, False, True, True), (False, True), ((0, False, True),)):
            self.refuses(value, 5)
            self.refuses((0, False, tuple(value)), 5)
            self.refuses((0, tuple(value), True), 5)

    def test_integers_in_the_place_of_truths(self):
        for value in (0, 1, 2, -1, (0, 0, 1), (0, False, 1), (0, 0, True), (0, 1, False), (0, True, 0),
                      (0, 2, True), (0, False, (1, 0, True)), (0, (1, False, 1), True), (0, True, 1)):
            self.refuses(value, 5)

    def test_texts(self):
        for value in ("", "0", "1", "abc", "True", "a?1:0", (0, "", True), (0, False, "abc"),
                      ("abc", False, True), (0, "0", "1"), (0, (1, "0", True), True)):
            self.refuses(value, 5)

    def test_deep_values(self):
        first, second, third, fourth, fifth = (), True, False, True, 0
        for k in range(599):
            first = (first,)
            second = (0, second, False)
            third = (599 - k, False, third)
            fourth = (fourth, False, True)
            fifth = (0, fifth, fifth)
        for value in (first, second, third, fourth, fifth):
            for count in range(1, 6):
                self.refuses(value, count)
                self.refuses((0, value, True), count)
                self.refuses((0, False, value), count)
                self.refuses((0, (1, value, value), True), count)


class UnchangedTest(unittest.TestCase):
    def test_no_function_changes_what_it_was_given(self):
        names = ("a", "b", "c")
        formula = read_formula(names, "a & !b | c")
        d, e = diagram_of(names, formula), diagram_of(names, ("switch", "b"))
        config = (1, 0, 1)
        given = [names, formula, d, e, config]
        kept = copy.deepcopy(given)
        diagram_of(names, formula)
        for found in (negated(d), both(d, e), either(d, e), diagram_at(config)):
            written(names, found)
            is_diagram(found, 3)
            holds(found, config)
            chosen(found, 3).clear()
            least(found, 3)
            how_many(found, 3)
        self.assertEqual(given, kept)

    def test_each_list_is_a_new_one(self):
        chosen(True, 2).append("more")
        self.assertEqual(chosen(True, 2), all_configurations(2))


if __name__ == "__main__":
    unittest.main()
