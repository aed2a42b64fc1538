import copy
import random
import unittest

from oncefolded.diagrams import is_diagram
from oncefolded.grammar_texts import read_grammar
from oncefolded.items import covers, ways
from tests.helper import (
    all_items, diagram_by_definition, diagram_where, folded_words, is_in, some_cases, ways_by_definition)

AB = ("a", "b")
A, B = (0, False, True), (1, False, True)
NOT_A, NOT_B = (0, True, False), (1, True, False)
GRAMMAR = read_grammar(AB, 'start S\nrule S = T "+" T {a}\nrule T = word\nrule T = T word\nrule S = T\nbar 0 2 2\nbar 0 0 2 {b}')


class WaysTest(unittest.TestCase):
    def ways_are(self, grammar, folded, items, item, wanted):
        for given in (list(items), tuple(items), list(items) + [item], [item] + list(items)):
            kept = copy.deepcopy(given)
            found = ways(grammar, folded, given, item)
            self.assertIs(type(found), list)
            self.assertEqual(sorted(found, key=repr), sorted(wanted, key=repr))
            self.assertEqual(given, kept)

    def test_one_begin_of_a_token(self):
        folded = folded_words("v + w", A, True, B)
        self.ways_are(GRAMMAR, folded, [], (1, (0,), 1), [(None, None, A)])
        self.ways_are(GRAMMAR, folded, [], (1, (2,), 3), [(None, None, B)])
        self.ways_are(GRAMMAR, folded, [], (1, (1,), 2), [])
        self.ways_are(GRAMMAR, folded, [], (1, (0,), 2), [])
        self.ways_are(GRAMMAR, folded, [], (1, (0,), 3), [])

    def test_one_begin_of_a_token_with_the_diagram_of_the_rule(self):
        grammar = read_grammar(AB, "start S\nrule S = word {b}\nrule S = word word {b}")
        self.ways_are(grammar, folded_words("w w", A), [], (0, (0,), 1), [(None, None, (0, False, B))])
        self.ways_are(grammar, folded_words("w w", NOT_B), [], (0, (0,), 1), [])
        self.ways_are(grammar, folded_words("w w", False), [], (0, (0,), 1), [])
        # Only the first part asks for the diagram of the rule.
        self.ways_are(grammar, folded_words("w w", A), [(1, (0,), 1)], (1, (0, 1), 2), [((1, (0,), 1), None, True)])

    def test_one_begin_of_a_symbol(self):
        folded = folded_words("v w + w")
        lower = [(1, (0,), 1), (2, (0, 1), 2), (2, (0,), 1)]
        self.ways_are(GRAMMAR, folded, lower, (0, (0,), 1), [(None, (1, (0,), 1), A)])
        self.ways_are(GRAMMAR, folded, lower, (0, (0,), 2), [(None, (2, (0, 1), 2), (0, False, NOT_B))])
        self.ways_are(GRAMMAR, folded, lower, (3, (0,), 2), [(None, (2, (0, 1), 2), True)])
        self.ways_are(GRAMMAR, folded, lower, (0, (0,), 3), [])
        self.ways_are(GRAMMAR, folded, lower, (0, (1,), 2), [])
        self.ways_are(GRAMMAR, folded, [], (0, (0,), 1), [])

    def test_two_begins_of_a_token(self):
        folded = folded_words("v w + w", True, A, True, True)
        # The token between is absent, or it belongs to the first part.
        self.ways_are(GRAMMAR, folded, [(0, (0,), 1)], (0, (0, 2), 3), [((0, (0,), 1), None, NOT_A)])
        self.ways_are(GRAMMAR, folded, [(0, (0,), 2)], (0, (0, 2), 3), [((0, (0,), 2), None, True)])
        self.ways_are(GRAMMAR, folded, [(0, (0,), 1), (0, (0,), 2), (0, (0,), 3)], (0, (0, 2), 3), [
            ((0, (0,), 1), None, NOT_A), ((0, (0,), 2), None, True)])
        self.ways_are(GRAMMAR, folded, [(0, (0,), 1)], (0, (0, 2), 4), [])
        self.ways_are(GRAMMAR, folded, [(0, (0,), 1)], (0, (0, 1), 2), [])
        self.ways_are(GRAMMAR, folded, [(3, (0,), 1), (0, (1,), 2), (2, (0,), 1)], (0, (0, 2), 3), [])
        self.ways_are(GRAMMAR, folded, [], (0, (0, 2), 3), [])

    def test_all_tokens_between_are_absent(self):
        folded = folded_words("w w w +", True, A, B, True)
        self.ways_are(GRAMMAR, folded, [(0, (0,), 1)], (0, (0, 3), 4), [((0, (0,), 1), None, (0, NOT_B, False))])
        folded = folded_words("w w w +", True, A, NOT_A, B)
        self.ways_are(GRAMMAR, folded, [(0, (0,), 1)], (0, (0, 3), 4), [])
        self.ways_are(GRAMMAR, folded, [(0, (0,), 2)], (0, (0, 3), 4), [((0, (0,), 2), None, (0, False, B))])

    def test_three_begins_of_a_symbol(self):
        folded = folded_words("u + v w", True, True, A, B)
        earlier = (0, (0, 1), 2)
        lower = [(1, (2,), 3), (2, (2, 3), 4), (1, (3,), 4), (2, (2,), 4), (3, (2,), 3)]
        items = [earlier] + lower
        self.ways_are(GRAMMAR, folded, items, (0, (0, 1, 2), 3), [(earlier, (1, (2,), 3), True)])
        # Rule 2 is barred everywhere at the last place.
        self.ways_are(GRAMMAR, folded, items, (0, (0, 1, 2), 4), [])
        self.ways_are(GRAMMAR, folded, items, (0, (0, 1, 3), 4), [(earlier, (1, (3,), 4), NOT_A)])
        self.ways_are(GRAMMAR, folded, lower, (0, (0, 1, 2), 3), [])
        self.ways_are(GRAMMAR, folded, [earlier], (0, (0, 1, 2), 3), [])

    def test_several_earlier_and_lower_items(self):
        grammar = read_grammar(AB, "start S\nrule S = S S\nrule S = word\nrule S = word\nbar 0 1 2 {a}")
        folded = folded_words("u v w", True, A, True)
        items = [(0, (0,), 1), (0, (0,), 2), (1, (2,), 3), (2, (2,), 3)]
        self.ways_are(grammar, folded, items, (0, (0, 2), 3), [
            ((0, (0,), 1), (1, (2,), 3), NOT_A), ((0, (0,), 1), (2, (2,), 3), NOT_A),
            ((0, (0,), 2), (1, (2,), 3), True), ((0, (0,), 2), (2, (2,), 3), NOT_A)])

    def test_demands_of_whole_items(self):
        folded = folded_words("v w")
        grammar = read_grammar(AB, "start S\nrule S = word word same:0:1\nrule S = word word right:0:1\nrule S = word glued:0")
        self.ways_are(grammar, folded, [(0, (0,), 1)], (0, (0, 1), 2), [])
        self.ways_are(grammar, folded, [(1, (0,), 1)], (1, (0, 1), 2), [((1, (0,), 1), None, True)])
        self.ways_are(grammar, folded, [], (2, (0,), 1), [])
        # An item that is not whole has no demands yet.
        self.ways_are(grammar, folded, [], (0, (0,), 1), [(None, None, True)])

    def test_an_item_that_is_given_twice_is_one(self):
        folded = folded_words("v + w")
        self.assertEqual(ways(GRAMMAR, folded, [(0, (0,), 1)] * 2, (0, (0, 1), 2)), [((0, (0,), 1), None, True)])

    def test_many(self):
        chooser = random.Random(921)
        some = 0
        for grammar, folded in some_cases(922, 250, 4):
            items = all_items(grammar, len(folded))
            given = [item for item in items if chooser.random() < chooser.choice((0.2, 0.7, 1))]
            chooser.shuffle(given)
            kept = copy.deepcopy((grammar, folded, given))
            for item in items:
                wanted = [(earlier, lower, diagram_by_definition(where, 2))
                          for earlier, lower, where in ways_by_definition(grammar, folded, given, item, 2)]
                found = ways(grammar, folded, chooser.choice((list, tuple))(given), item)
                self.assertEqual(sorted(found, key=repr), sorted(wanted, key=repr))
                self.assertTrue(all(is_diagram(way[2], 2) and way[2] is not False for way in found))
                some += len(found)
            self.assertEqual((grammar, folded, given), kept)
        self.assertGreater(some, 3000)


class CoversTest(unittest.TestCase):
    def test_plain_ones(self):
        folded = folded_words("w w w w", A, True, B, NOT_A)
        self.assertIs(covers(folded, (0, (0,), 4)), True)
        self.assertEqual(covers(folded, (0, (1,), 4)), NOT_A)
        self.assertEqual(covers(folded, (0, (0,), 3)), A)
        self.assertEqual(covers(folded, (0, (0, 1), 2)), (0, False, NOT_B))
        self.assertIs(covers(folded, (0, (1,), 3)), False)
        self.assertIs(covers(folded, (0, (2,), 3)), False)
        self.assertIs(covers(folded_words("w"), (0, (0,), 1)), True)

    def test_the_tokens_inside_do_not_matter(self):
        folded = folded_words("w w w", A, False, B)
        self.assertIs(covers(folded, (0, (0, 1, 2), 3)), True)
        self.assertEqual(covers(folded, (0, (1,), 2)), (0, NOT_B, False))

    def test_many(self):
        for grammar, folded in some_cases(923, 100, 5):
            kept = copy.deepcopy(folded)
            for item in all_items(grammar, len(folded)):
                outside = [k for k in range(len(folded)) if not item[1][0] <= k < item[2]]
                wanted = diagram_where(lambda c: not any(is_in(folded[k][1], c) for k in outside), 2)
                found = covers(folded, item)
                self.assertEqual(found, wanted)
                self.assertTrue(is_diagram(found, 2))
            self.assertEqual(folded, kept)


if __name__ == "__main__":
    unittest.main()
