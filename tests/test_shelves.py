import copy
import random
import unittest

from oncefolded.diagrams import is_diagram
from oncefolded.errors import BadFormula, BadShelf
from oncefolded.formulas import read_formula
from oncefolded.shelves import choose, fold, lines_of
from tests.helper import all_configurations, diagram_where, is_in, is_true_text

AB = ("a", "b")
A, B = (0, False, True), (1, False, True)
NOT_A = (0, True, False)


def text_of(*lines):
    return "\n".join(lines)


class ShelfCase(unittest.TestCase):
    def fault(self, shelf, file, line, word, switches=AB):
        """Reading finds this fault, whether the shelf is folded or lines are chosen."""
        with self.assertRaises(BadShelf, msg=shelf) as caught:
            fold(shelf, "main", switches)
        found = caught.exception
        self.assertEqual((found.file, found.line, found.word), (file, line, word), shelf)
        for config in all_configurations(len(switches)):
            with self.assertRaises(BadShelf, msg=shelf) as caught:
                choose(shelf, "main", switches, config)
            found = caught.exception
            self.assertEqual((found.file, found.line, found.word), (file, line, word), shelf)

    def fault_of(self, lines, line, word, switches=AB):
        """The lines have this fault in the first file, and as well in one that is
        taken in there, also under a condition that never holds."""
        text = text_of(*lines)
        self.fault({"main": text}, "main", line, word, switches)
        self.fault({"main": "x\n#use other\n#end", "other": text}, "other", line, word, switches)
        self.fault({"main": "#if a & !a\n#use other\n#end\n#bad", "other": text}, "other", line, word, switches)

    def is_fine(self, shelf, switches=AB):
        found = fold(shelf, "main", switches)
        for config in all_configurations(len(switches)):
            wanted = [(text, file, line) for text, file, line, d in found if is_in(d, config)]
            self.assertEqual(choose(shelf, "main", switches, config), wanted, shelf)
        return found

    def is_fine_text(self, *lines):
        return self.is_fine({"main": text_of(*lines)})


class LinesOfTest(unittest.TestCase):
    def test_the_empty_text_has_no_lines(self):
        self.assertEqual(lines_of(""), [])

    def test_lines(self):
        self.assertEqual(lines_of("x = 1;"), ["x = 1;"])
        self.assertEqual(lines_of(" "), [" "])
        self.assertEqual(lines_of("a\nb"), ["a", "b"])
        self.assertEqual(lines_of("a\n\nb"), ["a", "", "b"])

    def test_a_newline_at_the_end_or_the_beginning(self):
        self.assertEqual(lines_of("a\n"), ["a", ""])
        self.assertEqual(lines_of("\na"), ["", "a"])

    def test_newlines_alone(self):
        for many in range(1, 5):
            self.assertEqual(lines_of("\n" * many), [""] * (many + 1))

    def test_nothing_but_newlines_separates(self):
        for sign in ("\r", "\t", "\x0b", "\x0c", "\x1c", "\x85", "\u2028", " ", ";"):
            self.assertEqual(lines_of("a" + sign + "b"), ["a" + sign + "b"])

    def test_each_list_is_a_new_one(self):
        lines_of("a\nb").append("c")
        self.assertEqual(lines_of("a\nb"), ["a", "b"])


class ExampleTest(ShelfCase):
    def test_the_example_of_the_document(self):
        shelf = {"main": "x = 1;\n#if a\n#use more\n#else\ny = 2;\n#end", "more": "z = 3;"}
        self.assertEqual(fold(shelf, "main", AB), [
            ("x = 1;", "main", 1, True), ("z = 3;", "more", 1, A), ("y = 2;", "main", 5, NOT_A)])
        self.assertEqual(choose(shelf, "main", AB, (0, 1)), [("x = 1;", "main", 1), ("y = 2;", "main", 5)])
        self.assertEqual(choose(shelf, "main", AB, (1, 0)), [("x = 1;", "main", 1), ("z = 3;", "more", 1)])


class FoldTest(ShelfCase):
    def test_empty_files(self):
        self.assertEqual(self.is_fine({"main": ""}), [])
        self.assertEqual(self.is_fine({"main": "#use b\n#use b", "b": ""}), [])
        self.assertEqual(self.is_fine({"main": "#if a\n#end"}), [])
        self.assertEqual(self.is_fine({"main": "\n"}), [("", "main", 1, True), ("", "main", 2, True)])

    def test_what_is_content(self):
        lines = [" #if a", " #", "x #else", "", "  ", "a#b", " #end", '"', "~", "@_"]
        self.assertEqual(self.is_fine_text(*lines), [(text, "main", k + 1, True) for k, text in enumerate(lines)])

    def test_if_else_and_end(self):
        self.assertEqual(self.is_fine_text("#if a", "x", "#end", "y"), [("x", "main", 2, A), ("y", "main", 4, True)])
        self.assertEqual(self.is_fine_text("#if a", "#else", "x", "#end"), [("x", "main", 3, NOT_A)])
        self.assertEqual(self.is_fine_text("#if a", "x", "#else", "y", "#end", "#if b", "z", "#end"),
                         [("x", "main", 2, A), ("y", "main", 4, NOT_A), ("z", "main", 7, B)])

    def test_spaces_in_a_formula(self):
        self.assertEqual(self.is_fine_text("#if  ! a  ", "x", "#end"), [("x", "main", 2, NOT_A)])
        self.assertEqual(self.is_fine_text("#if (a)", "x", "#end"), [("x", "main", 2, A)])

    def test_nested_conditions(self):
        found = self.is_fine_text("#if a", "#if b", "x", "#else", "y", "#end", "z", "#else", "#if b", "u", "#else",
                                  "v", "#end", "w", "#end")
        wanted = [("x", 3, lambda c: c == (1, 1)), ("y", 5, lambda c: c == (1, 0)), ("z", 7, lambda c: c[0]),
                  ("u", 10, lambda c: c == (0, 1)), ("v", 12, lambda c: c == (0, 0)), ("w", 14, lambda c: not c[0])]
        self.assertEqual(found, [(text, "main", line, diagram_where(told, 2)) for text, line, told in wanted])

    def test_uses_under_conditions(self):
        shelf = {"main": "#if a\n#use one\n#else\n#use two\n#end\n#use one",
                 "one": "#if b\nx\n#else\n#use two\n#end", "two": "y"}
        both, only_a = diagram_where(lambda c: c == (1, 1), 2), diagram_where(lambda c: c == (1, 0), 2)
        self.assertEqual(self.is_fine(shelf), [
            ("x", "one", 2, both), ("y", "two", 1, only_a), ("y", "two", 1, NOT_A),
            ("x", "one", 2, B), ("y", "two", 1, (1, True, False))])

    def test_lines_that_no_configuration_has_are_not_folded(self):
        self.assertEqual(self.is_fine_text("#if a & !a", "x", "#else", "y", "#end"), [("y", "main", 4, True)])
        self.assertEqual(self.is_fine_text("#if 1", "x", "#else", "y", "#end"), [("x", "main", 2, True)])
        self.assertEqual(self.is_fine_text("#if a", "#if !a", "x", "#end", "y", "#end"), [("y", "main", 5, A)])
        self.assertEqual(self.is_fine({"main": "#if 0\n#use b\n#end\nz", "b": "x\n#if a\ny\n#end"}),
                         [("z", "main", 4, True)])

    def test_lines_are_folded_in_the_order_of_reading(self):
        shelf = {"main": "1\n#use b\n2\n#use c\n3\n#use b\n4", "b": "b1\n#use c\nb2", "c": "c1"}
        self.assertEqual([line[0] for line in self.is_fine(shelf)],
                         ["1", "b1", "c1", "b2", "2", "c1", "3", "b1", "c1", "b2", "4"])

    def test_files_that_are_not_used_are_not_read(self):
        self.assertEqual(self.is_fine({"main": "x", "b": "#bad", "c": "#use c"}), [("x", "main", 1, True)])

    def test_another_first_file(self):
        shelf = {"main": "#bad", "z9": "x\n#use a", "a": "y"}
        self.assertEqual(fold(shelf, "z9", ("a",)), [("x", "z9", 1, True), ("y", "a", 1, True)])
        self.assertEqual(choose(shelf, "a", ("a",), (1,)), [("y", "a", 1)])

    def test_nothing_is_changed_or_kept(self):
        shelf = {"main": "#if a\nx\n#end\n#use more", "more": "y\n#if b\nz\n#end"}
        kept = copy.deepcopy(shelf)
        first = fold(shelf, "main", AB)
        wanted = list(first)
        first.clear()
        choose(shelf, "main", AB, (1, 1)).clear()
        self.assertEqual(shelf, kept)
        self.assertEqual(fold(shelf, "main", AB), wanted)
        shelf["more"] = "u"
        self.assertEqual(fold(shelf, "main", AB), [("x", "main", 2, A), ("u", "more", 1, True)])


class LineFaultTest(ShelfCase):
    def test_directives_of_another_form(self):
        for text in ("#", "##", "# if a", "# else", "#If a", "#IF a", "#if", "#if\ta", "#ifa", "#if(a)", "#elif a",
                     "#else ", "#else a", "#else\t", "#elsea", "#ELSE", "#end ", "#end a", "#endif", "#use", "#usex",
                     "#use\tx", "#include x", "#bad", "#/", "#\u00e9"):
            self.fault_of(["x", text], 2, "line")
            self.fault_of(["#if a", text, "#end"], 2, "line")

    def test_a_use_with_a_name_that_is_none(self):
        for name in ("", " ", " b", "b ", "b c", "B", "bC", "b.c", "b_c", "123456789", "abcdefghi", "b\t", "-",
                     "\u00e9", "\u0661", "..", "#"):
            self.fault_of(["#use " + name], 1, "line")
            self.fault({"main": "#use " + name, name: "x"}, "main", 1, "line")

    def test_names_of_files(self):
        for name in ("a", "z", "0", "9", "a1", "12345678", "abcdefgh"):
            self.assertEqual(self.is_fine({"main": "#use " + name, name: "x"}), [("x", name, 1, True)])

    def test_sixty_and_sixty_one_characters(self):
        self.assertEqual(self.is_fine_text("y" * 60), [("y" * 60, "main", 1, True)])
        self.assertEqual(self.is_fine_text(" " * 60), [(" " * 60, "main", 1, True)])
        for sign in "y +":
            self.fault_of(["x", sign * 61], 2, "line")

    def test_characters(self):
        everything = [chr(code) for code in range(32, 127)]
        for at in range(0, len(everything), 50):
            text = "x" + "".join(everything[at:at + 50])
            self.assertEqual(self.is_fine_text(text), [(text, "main", 1, True)])
        for sign in ("\t", "\r", "\x00", "\x1f", "\x7f", "\x80", "\u00a0", "\u00e9", "\u20ac", "\U0001f600"):
            for text in (sign, sign + "x", "x" + sign, "x " + sign + " y", "y" * 59 + sign):
                self.fault_of(["x", text], 2, "line")

    def test_else_and_end_without_if(self):
        for text in ("#else", "#end"):
            self.fault_of([text], 1, "line")
            self.fault_of(["x", text], 2, "line")
            self.fault_of(["#if a", "x", "#end", text], 4, "line")
            self.fault_of(["#if a", "#else", "#end", text, "#if a"], 4, "line")

    def test_else_and_end_for_an_if_of_another_file(self):
        for text in ("#else", "#end"):
            self.fault({"main": "#if a\n#use b\n#end", "b": "x\n" + text}, "b", 2, "line")
            self.fault({"main": "#if a\n#use b\n#end", "b": "#if a\n#end\n" + text}, "b", 3, "line")
            self.fault({"main": "#if a\n#use b\n#end", "b": "#use c", "c": text}, "c", 1, "line")

    def test_two_else(self):
        self.fault_of(["#if a", "#else", "#else", "#end"], 3, "line")
        self.fault_of(["#if a", "#else", "x", "#if b", "#else", "#end", "#else", "#end"], 7, "line")
        self.assertEqual(len(self.is_fine_text("#if a", "#if b", "#else", "x", "#end", "#else", "y", "#end")), 2)


class FormulaFaultTest(ShelfCase):
    def test_texts_that_no_formula_has(self):
        for text in ("", " ", "c", "A", "a b", "a &", "(a", "a)", "!", "a\t", "2", "#", "ab", "a && b", "\u00e9"):
            self.fault_of(["x", "#if " + text, "#end"], 2, "formula")

    def test_a_name_that_is_no_switch_here(self):
        self.fault({"main": "#if b\n#end"}, "main", 1, "formula", ("a",))
        self.assertEqual(fold({"main": "#if b\nx\n#end"}, "main", ("b",)), [("x", "main", 2, A)])

    def test_sixty_and_sixty_one_characters(self):
        for text in ("a" + " " * 59, "a" + "&a" * 29 + " ", "(" * 29 + " a" + ")" * 29):
            self.assertEqual(len(text), 60)
            self.assertEqual(self.is_fine_text("#if " + text, "x", "#end"), [("x", "main", 2, A)])
            self.fault_of(["#if " + text + " ", "#end"], 1, "formula")


class NestedFaultTest(ShelfCase):
    def test_six_and_seven_in_one_file(self):
        six = ["#if a", "#if b", "#if a | b", "#if 1", "#if !0", "#if b"]
        self.assertEqual(self.is_fine_text(*six, "x", *["#end"] * 6), [
            ("x", "main", 7, diagram_where(lambda c: c == (1, 1), 2))])
        self.fault_of([*six, "#if a", "x", *["#end"] * 7], 7, "nested")
        self.fault_of([*six, "#if a", "x"], 7, "nested")
        self.fault_of(["x", *six[:5], "#else", *six[:1], "#else", "x", "#if 1", *["#end"] * 7], 11, "nested")

    def test_ends_make_room(self):
        found = self.is_fine_text(*["#if a"] * 6, "#end", "#if b", "x", "#end", *["#end"] * 5, "#if b", "#end")
        self.assertEqual([line[:3] for line in found], [("x", "main", 9)])

    def test_more_of_them_across_files(self):
        def inside(use):
            return text_of(*["#if a"] * 5, "#if b", use, *["#end"] * 6)
        shelf = {"main": inside("#use b"), "b": inside("#use c"), "c": inside("#use d"), "d": inside("x")}
        self.assertEqual(self.is_fine(shelf), [("x", "d", 7, diagram_where(lambda c: c == (1, 1), 2))])
        shelf["d"] = inside("#if a")
        self.fault(shelf, "d", 7, "nested")


class UseFaultTest(ShelfCase):
    def test_the_first_file_is_missing(self):
        for shelf in ({}, {"main": "x"}):
            for name in ("other", "b"):
                for config in all_configurations(1):
                    with self.assertRaises(BadShelf) as caught:
                        choose(shelf, name, ("a",), config)
                    found = caught.exception
                    self.assertEqual((found.file, found.line, found.word), (name, 0, "missing"))
                with self.assertRaises(BadShelf) as caught:
                    fold(shelf, name, ("a",))
                found = caught.exception
                self.assertEqual((found.file, found.line, found.word), (name, 0, "missing"))

    def test_missing(self):
        self.fault_of(["x", "#use none"], 2, "missing")
        self.fault({"main": "#if 0\n#use b\n#end"}, "main", 2, "missing")
        self.fault({"main": "#use b", "b": "x\n#use c"}, "b", 2, "missing")

    def test_rings(self):
        self.fault({"main": "x\n#use main"}, "main", 2, "ring")
        self.fault({"main": "x\n#use b", "b": "#use b"}, "b", 1, "ring")
        self.fault({"main": "#use b", "b": "x\n\n#use main"}, "b", 3, "ring")
        self.fault({"main": "#use b", "b": "x\n#use c", "c": "#use b"}, "c", 1, "ring")
        self.fault({"main": "#use b", "b": "#use c", "c": "x\n#use main"}, "c", 2, "ring")
        self.fault({"main": "#if 0\n#use main\n#end"}, "main", 2, "ring")

    def test_a_file_that_is_used_twice_is_no_ring(self):
        shelf = {"main": "#use b\n#use b\n#use c", "b": "#use c\n#use c", "c": "x"}
        self.assertEqual(self.is_fine(shelf), [("x", "c", 1, True)] * 5)

    def test_the_fourth_level(self):
        shelf = {"main": "#use b", "b": "#use c", "c": "#use d", "d": "x"}
        self.assertEqual(self.is_fine(shelf), [("x", "d", 1, True)])
        self.fault({**shelf, "d": "x\n#use e", "e": "y"}, "d", 2, "deep")
        self.fault({**shelf, "main": "#if 0\n#use b\n#end", "d": "#use e", "e": ""}, "d", 1, "deep")

    def test_missing_and_ring_count_ahead_of_deep(self):
        shelf = {"main": "#use b", "b": "#use c", "c": "#use d"}
        self.fault({**shelf, "d": "#use e"}, "d", 1, "missing")
        for name in ("main", "b", "c", "d"):
            self.fault({**shelf, "d": "#use " + name}, "d", 1, "ring")

    def test_a_wrong_name_counts_ahead_of_missing_and_deep(self):
        shelf = {"main": "#use b", "b": "#use c", "c": "#use d"}
        self.fault({**shelf, "d": "#use E"}, "d", 1, "line")


class OpenFaultTest(ShelfCase):
    def test_open_at_the_end(self):
        self.fault_of(["#if a"], 1, "open")
        self.fault_of(["x", "#if a", "x", ""], 2, "open")
        self.fault_of(["#if a", "#else", "x"], 1, "open")

    def test_of_two_the_last_one(self):
        self.fault_of(["#if a", "x", "#if b", "y"], 3, "open")
        self.fault_of(["#if a", "#if b", "x", "#end", "y"], 1, "open")
        self.fault_of(["#if a", "#else", "#if b", "#else", "x"], 3, "open")
        self.fault_of(["#if a", "#if b", "#end", "#if a & b", "#if b"], 5, "open")

    def test_a_file_that_is_taken_in_ends_ahead_of_the_next_line(self):
        self.fault({"main": "#if a\n#use b\n#end", "b": "x\n#if b"}, "b", 2, "open")
        self.fault({"main": "#use b\n#end", "b": "#if b"}, "b", 1, "open")
        self.fault({"main": "#if a\n#use b\n#bad", "b": "x"}, "main", 3, "line")
        self.fault({"main": "#if a\n#use b", "b": "x"}, "main", 1, "open")


class LongFaultTest(ShelfCase):
    def test_forty_and_forty_one(self):
        lines = [f"x{k}" for k in range(40)]
        self.assertEqual([line[0] for line in self.is_fine_text(*lines)], lines)
        self.fault({"main": text_of(*lines, "y")}, "main", 41, "long")
        self.fault({"main": text_of(*lines, "")}, "main", 41, "long")
        self.fault({"main": text_of(*lines, "#if 0", "y", "#end")}, "main", 42, "long")

    def test_lines_that_never_are_present_count(self):
        lines = ["#if 0", *["x"] * 39, "#else", "y", "#end"]
        self.assertEqual(len(self.is_fine_text(*lines)), 1)
        self.fault({"main": text_of(*lines, "z")}, "main", 44, "long")
        self.fault({"main": text_of("#if 0", *["x"] * 41, "#end")}, "main", 42, "long")
        self.fault({"main": "#if a & !a\n#use b\n#end", "b": "\n" * 40}, "b", 41, "long")

    def test_directives_do_not_count(self):
        self.assertEqual(len(self.is_fine_text(*["#if a", "#else", "#end"] * 30, *["x"] * 40)), 40)

    def test_lines_of_all_files_count(self):
        shelf = {"main": "#use b\n#use b\n#use b\n#use b\nx", "b": "\n" * 9}
        self.fault(shelf, "main", 5, "long")
        self.fault({**shelf, "b": "\n" * 10}, "b", 8, "long")
        self.assertEqual(len(self.is_fine({**shelf, "main": "#use b\n#use b\n#use b\n#use b"})), 40)


class FirstFaultTest(ShelfCase):
    def test_the_fault_that_is_found_first_counts(self):
        self.fault_of(["#if c", "#bad", "#end"], 1, "formula")
        self.fault_of(["#bad", "#if c", "#end"], 1, "line")
        self.fault_of(["#if a", "#use none", "#bad"], 2, "missing")
        self.fault({"main": "#use b\n#bad", "b": "x\n#if c"}, "b", 2, "formula")
        self.fault({"main": "#bad\n#use b", "b": "#if c"}, "main", 1, "line")
        self.fault({"main": text_of(*["#if a"] * 7, "x", "#bad")}, "main", 7, "nested")
        self.fault({"main": text_of("#if a", *["x"] * 41)}, "main", 42, "long")
        self.fault({"main": text_of(*["x"] * 41, "#bad")}, "main", 41, "long")

    def test_of_one_line_the_first_word_of_the_list(self):
        self.fault_of([*["#if a"] * 6, "#iff a"], 7, "line")
        self.fault_of([*["#if a"] * 6, "#if"], 7, "line")
        self.fault_of([*["#if a"] * 6, "#if c"], 7, "formula")
        self.fault_of([*["#if a"] * 6, "#if "], 7, "formula")
        self.fault({"main": text_of(*["x"] * 40, "y" * 61)}, "main", 41, "line")
        self.fault({"main": text_of(*["x"] * 40, "\t")}, "main", 41, "line")
        self.fault({"main": text_of(*["x"] * 40, "#else")}, "main", 41, "line")


class PlainReader:
    """Reads a shelf as the document says it, in one configuration or, without
    one, all lines."""

    def __init__(self, shelf, switches, config=None):
        self.shelf, self.switches, self.config = shelf, switches, config
        self.seen = 0

    def read(self, files, around):
        """The content lines of the last file, and of those it uses; or a fault."""
        if not around:
            around = [True]
        found, blocks = [], []
        for number, text in enumerate(self.shelf[files[-1]].split("\n") if self.shelf[files[-1]] else [], 1):
            fault = self.fault(files, blocks, text)
            if fault:
                return found, (files[-1], number, fault)
            if text[:3] == "#if":
                blocks.append([number, self.truth(text[4:]), "if"])
            elif text == "#else":
                blocks[-1] = [blocks[-1][0], not blocks[-1][1], "else"]
            elif text == "#end":
                blocks.pop()
            else:
                here = self.config is None or all(around + [truth for _, truth, _ in blocks])
                if text[:4] == "#use":
                    more, fault = self.read(files + [text[5:]], around + [here])
                    found += more
                    if fault:
                        return found, fault
                elif here:
                    found.append((text, files[-1], number))
        return found, (files[-1], blocks[-1][0], "open") if blocks else None

    def truth(self, text):
        return self.config is not None and is_true_text(text, self.switches, self.config)

    def fault(self, files, blocks, text):
        words = []
        if text[:1] != "#":
            self.seen += 1
            words = ["line"] * (len(text) > 60 or not text.isascii() or "\t" in text) + ["long"] * (self.seen > 40)
        elif text[:4] == "#if ":
            try:
                read_formula(self.switches, text[4:])
            except BadFormula:
                words.append("formula")
            words += ["nested"] * (len(blocks) >= 6)
        elif text[:5] == "#use ":
            name = text[5:]
            known = name in self.shelf
            plain = name.isalnum() and name == name.lower() and len(name) < 9
            words = ["line"] * (not plain) + ["missing"] * (not known) + ["ring"] * (name in files)
            words += ["deep"] * (len(files) == 4)
        elif text == "#else":
            words = ["line"] * (not blocks or blocks[-1][2] == "else")
        else:
            words = ["line"] * (text != "#end" or not blocks)
        return words[0] if words else None


class ManyShelvesTest(ShelfCase):
    def some_text(self, chooser, names, faulty):
        formulas = ["a", "b", "!a", "a & b", "a | !b", "1", "0", "!(a & b)", "a & !a"]
        lines, deep = [], 0
        for _ in range(chooser.randrange(9)):
            line = chooser.choice(["x", "y 1", "#if", "#if", "#use", "#else", "#end"])
            if line == "#if":
                line = "#if " + chooser.choice(formulas)
                deep += 1
            elif line == "#use":
                line = "#use " + chooser.choice(names) if names else ""
            elif line == "#else" and not faulty:
                line = "#end" if deep else "z"
            if line == "#end":
                if not deep and not faulty:
                    line = "z"
                deep = max(0, deep - 1)
            if line == "#end" and chooser.random() < 0.5:
                lines += ["#else", "u"]
            lines.append(line)
        lines += ["#end"] * (deep if not faulty else chooser.choice((deep, deep, deep, 0)))
        if faulty:
            wrong = ["#", "#if c", "#if ", "y" * 61, "\t", "#else", "#end", "#use Z", "#use", "x\n" * 20,
                     "#if a\n" * 6]
            lines.insert(chooser.randrange(len(lines) + 1), chooser.choice(wrong))
        return text_of(*lines)

    def check_fine(self, shelf):
        found = fold(shelf, "main", AB)
        everything = PlainReader(shelf, AB).read(["main"], [])[0]
        chosen = {}
        for config in all_configurations(2):
            wanted, fault = PlainReader(shelf, AB, config).read(["main"], [])
            self.assertIsNone(fault)
            chosen[config] = wanted
            self.assertEqual(choose(shelf, "main", AB, config), wanted, (shelf, config))
            self.assertEqual([line[:3] for line in found if is_in(line[3], config)], wanted, (shelf, config))
        for line in found:
            self.assertTrue(is_diagram(line[3], 2) and line[3] is not False, shelf)
        rest = list(everything)
        for line in found:
            # Each folded line stands in the order of reading, behind the one before.
            del rest[:rest.index(line[:3]) + 1]

    def test_shelves_with_conditions_and_uses(self):
        chooser = random.Random(5)
        folded = 0
        for _ in range(300):
            shelf = {"main": self.some_text(chooser, ["b", "c"], False), "b": self.some_text(chooser, ["c"], False),
                     "c": self.some_text(chooser, [], False)}
            if PlainReader(shelf, AB).read(["main"], [])[1] is None:
                self.check_fine(shelf)
                folded += 1
        self.assertGreater(folded, 200)

    def test_the_first_fault_of_wrong_shelves(self):
        chooser = random.Random(6)
        words = {}
        for _ in range(1500):
            names = ["main", "b", "c", "d", "e", "none"]
            shelf = {name: self.some_text(chooser, names if chooser.random() < 0.4 else names[2:4],
                                          chooser.random() < 0.4) for name in names[:5]}
            if chooser.random() < 0.5:
                shelf["main"] = "\n".join(["#if a | b"] * chooser.randrange(3) + [shelf["main"], "#use b"])
            fault = PlainReader(shelf, AB).read(["main"], [])[1]
            if fault is None:
                self.check_fine(shelf)
            else:
                words[fault[2]] = words.get(fault[2], 0) + 1
                self.fault(shelf, *fault)
        self.assertEqual(sorted(words), sorted(("line", "formula", "nested", "missing", "ring", "deep", "open", "long")))


if __name__ == "__main__":
    unittest.main()
