import copy
import itertools
import random
import re
import unittest

from oncefolded.errors import BadToken, TooMany
from oncefolded.shelves import choose, fold
from oncefolded.tokens import MARKS, MAX_TOKENS, fold_tokens, present, tokens_of
from tests.helper import all_configurations, is_in, some_diagram

A, B = (0, False, True), (1, False, True)


class TokenCase(unittest.TestCase):
    def tokens_are(self, text, *wanted, row=0):
        """The tokens of the text, each told by kind, text, column and glued."""
        found = tokens_of(text, row)
        self.assertIsInstance(found, list)
        self.assertEqual(found, [(kind, told, row, column, glued) for kind, told, column, glued in wanted], repr(text))
        for token in found:
            self.assertIs(type(token[4]), bool)

    def refuses(self, text, column, row=0):
        with self.assertRaises(BadToken, msg=repr(text)) as caught:
            tokens_of(text, row)
        self.assertEqual((caught.exception.row, caught.exception.column), (row, column), repr(text))


class TokensOfTest(TokenCase):
    def test_the_example_of_the_document(self):
        self.assertEqual(tokens_of("x =12a", 4), [
            ("word", "x", 4, 0, False), ("mark", "=", 4, 2, False), ("number", "12", 4, 3, True),
            ("word", "a", 4, 5, True)])

    def test_the_constants(self):
        self.assertEqual(list(MARKS), "+ - * / ( ) { } ; , = < > ! : . ? & |".split())
        self.assertEqual(MAX_TOKENS, 24)

    def test_words(self):
        for word in ("x", "X", "a", "z", "A", "Z", "abc", "aBc", "a1", "a1b2", "x123", "Q0", "if"):
            self.tokens_are(word, ("word", word, 0, False))

    def test_numbers(self):
        for number in ("0", "9", "12", "007", "1234567890"):
            self.tokens_are(number, ("number", number, 0, False))

    def test_each_mark(self):
        for mark in MARKS:
            self.tokens_are(mark, ("mark", mark, 0, False))
            self.tokens_are(mark + mark, ("mark", mark, 0, False), ("mark", mark, 1, True))
            self.tokens_are("a" + mark + "1", ("word", "a", 0, False), ("mark", mark, 1, True),
                            ("number", "1", 2, True))
            self.tokens_are(" " + mark + "b", ("mark", mark, 1, False), ("word", "b", 2, True))

    def test_a_number_and_a_word(self):
        self.tokens_are("12ab", ("number", "12", 0, False), ("word", "ab", 2, True))
        self.tokens_are("1a2b3", ("number", "1", 0, False), ("word", "a2b3", 1, True))
        self.tokens_are("12 ab", ("number", "12", 0, False), ("word", "ab", 3, False))

    def test_spaces(self):
        self.tokens_are("")
        for many in (1, 2, 7):
            self.tokens_are(" " * many)
            self.tokens_are("a" + " " * many + "b", ("word", "a", 0, False), ("word", "b", 1 + many, False))
            self.tokens_are(" " * many + "a", ("word", "a", many, False))
            self.tokens_are("a" + " " * many, ("word", "a", 0, False))
        self.tokens_are("  a + (b )  ", ("word", "a", 2, False), ("mark", "+", 4, False), ("mark", "(", 6, False),
                        ("word", "b", 7, True), ("mark", ")", 9, False))

    def test_the_row_is_that_of_the_line(self):
        for row in (0, 1, 39, 1000):
            self.tokens_are("a b", ("word", "a", 0, False), ("word", "b", 2, False), row=row)
            self.refuses("a #", 2, row)

    def test_characters_that_belong_to_no_token(self):
        for sign in list("\"#$%'@[\\]^_`~\t\n\r") + ["\x00", "\x7f", "\u00a0", "\u00e9", "\u0430", "\u0661", "\u00b2"]:
            self.refuses(sign, 0)
            self.refuses("  " + sign, 2)
            self.refuses("ab" + sign + "c", 2)
            self.refuses("12" + sign, 2)
            self.refuses("x = 1" + sign + " y", 5)

    def test_the_first_of_them_counts(self):
        self.refuses("a _ #", 2)
        self.refuses("@@", 0)
        self.refuses("a.b ~ \" c", 4)

    def test_all_short_texts_against_a_pattern(self):
        pattern = re.compile(r"[A-Za-z][A-Za-z0-9]*|[0-9]+|[-+*/(){};,=<>!:.?&|]")
        kinds = {True: "word", False: "number"}
        for size in range(5):
            for signs in itertools.product("aZ09 +(|#", repeat=size):
                text = "".join(signs)
                if "#" in text:
                    self.refuses(text, text.index("#"))
                    continue
                wanted = []
                for found in pattern.finditer(text):
                    kind = kinds[found.group()[0].isalpha()] if found.group().isalnum() else "mark"
                    wanted.append((kind, found.group(), found.start(), text[found.start() - 1:found.start()] not in ("", " ")))
                self.tokens_are(text, *wanted)


class FoldTokensTest(unittest.TestCase):
    def test_rows_columns_and_diagrams(self):
        lines = [("x = 1", "main", 3, True), ("", "main", 4, A), ("  yy(2", "more", 1, B), (";", "main", 9, A)]
        self.assertEqual(fold_tokens(lines), [
            (("word", "x", 0, 0, False), True), (("mark", "=", 0, 2, False), True),
            (("number", "1", 0, 4, False), True), (("word", "yy", 2, 2, False), B),
            (("mark", "(", 2, 4, True), B), (("number", "2", 2, 5, True), B), (("mark", ";", 3, 0, False), A)])

    def test_a_new_line_is_not_glued(self):
        self.assertEqual([token[4] for token, _ in fold_tokens([("a", "m", 1, True), ("b;", "m", 2, True)])],
                         [False, False, True])

    def test_no_tokens(self):
        self.assertEqual(fold_tokens([]), [])
        self.assertEqual(fold_tokens([("", "m", 1, True), ("   ", "m", 2, A)]), [])

    def test_twenty_four_and_twenty_five_tokens(self):
        lines = [("a+1", "m", k, A) for k in range(8)]
        self.assertEqual(len(fold_tokens(lines)), 24)
        self.assertEqual(len(fold_tokens([("+" * 24, "m", 1, True)])), 24)
        for more in ([("+" * 25, "m", 1, True)], lines + [("", "m", 1, True), ("x", "m", 2, B)],
                     [("x", "m", 1, True)] + lines, [("+" * 60, "m", 1, True)]):
            with self.assertRaises(TooMany):
                fold_tokens(more)

    def refuses(self, lines, row, column):
        with self.assertRaises(BadToken) as caught:
            fold_tokens(lines)
        self.assertEqual((caught.exception.row, caught.exception.column), (row, column))

    def test_a_wrong_character(self):
        self.refuses([("a", "m", 1, True), ("b  _", "m", 2, A), ("#", "m", 3, True)], 1, 3)
        self.refuses([("", "m", 7, True), ("", "m", 8, True), ("\"", "m", 9, (0, True, False))], 2, 0)

    def test_the_first_line_that_is_wrong_counts(self):
        many, wrong = ("+" * 25, "m", 1, True), ("a @", "m", 2, True)
        self.refuses([wrong, many], 0, 2)
        with self.assertRaises(TooMany):
            fold_tokens([many, wrong])
        full = [("+" * 12, "m", 1, True)] * 2
        self.refuses(full + [wrong, ("x", "m", 3, True)], 2, 2)
        with self.assertRaises(TooMany):
            fold_tokens(full + [("x", "m", 3, True), wrong])

    def test_the_tokens_of_a_configuration_are_those_of_its_chosen_lines(self):
        shelf = {"main": "a = 1;\n#if p\nb\n#use more\n#else\n\n c=2\n#end\nd", "more": "e(\n#if q\n f)\n#end"}
        lines = fold(shelf, "main", ("p", "q"))
        folded = fold_tokens(lines)
        for config in all_configurations(2):
            rows = [row for row, line in enumerate(lines) if is_in(line[3], config)]
            texts = [text for text, _, _ in choose(shelf, "main", ("p", "q"), config)]
            wanted = [token for row, text in zip(rows, texts) for token in tokens_of(text, row)]
            self.assertEqual([folded[index][0] for index in present(folded, config)], wanted)


class PresentTest(unittest.TestCase):
    def test_each_configuration(self):
        token = ("word", "x", 0, 0, False)
        folded = [(token, True), (token, A), (token, (0, True, False)), (token, B), (token, True)]
        self.assertEqual(present(folded, (0, 0)), [0, 2, 4])
        self.assertEqual(present(folded, (0, 1)), [0, 2, 3, 4])
        self.assertEqual(present(folded, (1, 0)), [0, 1, 4])
        self.assertEqual(present(folded, (1, 1)), [0, 1, 3, 4])
        self.assertEqual(present(folded[1:2], (0, 1)), [])
        self.assertEqual(present([], (0,)), [])

    def test_many_diagrams(self):
        chooser = random.Random(2)
        for count in range(1, 6):
            for _ in range(20):
                folded = [(("word", "x", 0, 2 * k, False), some_diagram(chooser, count)) for k in range(24)]
                for config in all_configurations(count):
                    self.assertEqual(present(folded, config),
                                     [k for k in range(24) if is_in(folded[k][1], config)])


class UnchangedTest(unittest.TestCase):
    def test_nothing_is_changed_or_kept(self):
        lines = [("a = 1", "m", 1, A), ("b", "m", 2, True)]
        kept = copy.deepcopy(lines)
        folded = fold_tokens(lines)
        wanted = list(folded)
        present(folded, (1,)).clear()
        self.assertEqual((lines, folded), (kept, wanted))
        folded.clear()
        tokens_of("a b", 0).clear()
        self.assertEqual(fold_tokens(lines), wanted)
        self.assertEqual(len(tokens_of("a b", 0)), 2)


if __name__ == "__main__":
    unittest.main()
