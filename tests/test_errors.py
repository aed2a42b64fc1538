import unittest

from oncefolded import errors
from oncefolded.errors import (
    BadFormula, BadGrammar, BadShelf, BadToken, FoldError, NotAllowed, TooMany)


class ErrorsTest(unittest.TestCase):
    def test_fold_error_stands_below_value_error(self):
        self.assertTrue(issubclass(FoldError, ValueError))
        self.assertIsNot(FoldError, ValueError)

    def test_each_error_stands_below_fold_error(self):
        for kind in (BadFormula, BadShelf, BadToken, BadGrammar, TooMany, NotAllowed):
            self.assertTrue(issubclass(kind, FoldError), kind)
            self.assertIsNot(kind, FoldError)
            self.assertEqual(kind.__module__, errors.__name__)

    def test_no_error_stands_below_another_one_of_them(self):
        kinds = (BadFormula, BadShelf, BadToken, BadGrammar, TooMany, NotAllowed)
        for kind in kinds:
            for other in kinds:
                self.assertEqual(issubclass(kind, other), kind is other)

    def test_plain_errors_carry_a_message(self):
        for kind in (FoldError, BadFormula, TooMany, NotAllowed):
            self.assertEqual(str(kind("why")), "why")
            with self.assertRaises(FoldError):
                raise kind("why")
            with self.assertRaises(ValueError):
                raise kind()

    def test_bad_shelf_has_file_line_and_word(self):
        error = BadShelf("main", 3, "nested")
        self.assertEqual((error.file, error.line, error.word), ("main", 3, "nested"))
        self.assertIn("nested", str(error))

    def test_bad_token_has_row_and_column(self):
        error = BadToken(4, 7)
        self.assertEqual((error.row, error.column), (4, 7))

    def test_bad_grammar_has_a_line(self):
        self.assertEqual(BadGrammar(5).line, 5)
        self.assertEqual(BadGrammar(0).line, 0)

    def test_attributes_are_set_at_creation_for_each_object(self):
        first, second = BadToken(1, 2), BadToken(3, 4)
        self.assertEqual((first.row, first.column), (1, 2))
        self.assertEqual((second.row, second.column), (3, 4))


if __name__ == "__main__":
    unittest.main()
