import copy
import random
import unittest

from oncefolded.errors import NotAllowed
from oncefolded.projects import project_text, read_project, shelf_of

PROJECT = (("a", "bc"), ("start S", "rule S = word"), (("main", ("x", "", "#if a", "  y", "#end")), ("b2", ())))
TEXT = "\n".join(["switches a bc", "grammar", "  start S", "  rule S = word", "file main", "  x", "  ", "  #if a",
                  "    y", "  #end", "file b2"])
LINES = ["", " ", "x", "  x", "file a", "  file a", "grammar", "switches a", "#if a", "file", "  ", "\t", "\r", "a \u00e4",
         "start S", "file main "]


class ProjectCase(unittest.TestCase):
    def is_one(self, project, text=None):
        """The project and its text give each other back."""
        kept = copy.deepcopy(project)
        found = project_text(project)
        self.assertEqual(project, kept)
        if text is not None:
            self.assertEqual(found, text)
        again = read_project(found)
        self.assertEqual(again, project)
        self.assertEqual(repr(again), repr(project))
        self.assertEqual(project_text(again), found)
        return found

    def is_none(self, text):
        with self.assertRaises(NotAllowed, msg=text) as caught:
            read_project(text)
        self.assertIs(type(caught.exception), NotAllowed)


class ProjectTest(ProjectCase):
    def test_a_plain_one(self):
        self.is_one(PROJECT, TEXT)

    def test_any_lines_of_a_grammar(self):
        # Whether they are those of a grammar is told by what reads the grammar.
        for grammar in ((), ("",), ("start",), ("", "rule"), ("start S", "rule S = T")):
            self.is_one((("a",), grammar, (("m", ("1",)),)))

    def test_files_without_lines_and_with_empty_ones(self):
        for lines in ((), ("",), ("", ""), ("", "x"), ("x", ""), (" ",), ("  ", "   ")):
            self.is_one((("a",), ("start S",), (("m", lines),)),
                        "\n".join(["switches a", "grammar", "  start S", "file m"] + ["  " + line for line in lines]))

    def test_lines_that_look_like_headings(self):
        for line in LINES:
            self.is_one((("a",), (line, "x"), (("file", (line,)), ("grammar", ("x", line)), ("c", (line, line)))))

    def test_one_and_eight_files_and_switches(self):
        self.is_one((("a",), ("g",), (("x", ()),)))
        names = ["1", "12345678", "a", "abcdefgh", "b2", "file", "grammar", "zz"]
        for many in range(1, 9):
            self.is_one((("a", "b", "c", "d", "zzzzzz")[:min(many, 5)], ("g",), tuple((name, (name,)) for name in names[:many])))
        # The files stand in their own order.
        self.is_one((("a",), ("g",), (("z", ()), ("a", ("1",)), ("m", ()))))

    def test_many(self):
        chooser = random.Random(981)
        for _ in range(500):
            names = chooser.sample(["main", "a", "b", "c1", "d2", "file", "x", "9"], chooser.randint(1, 8))
            switches = tuple(sorted(chooser.sample(["a", "b", "c", "on", "off", "zzzzzz"], chooser.randint(1, 5))))
            texts = [tuple(chooser.choice(LINES) for _ in range(chooser.randrange(5))) for _ in names]
            self.is_one((switches, ("start S",) + texts[0], tuple(zip(names, texts))))

    def test_each_text_is_that_of_one_project(self):
        # What is read gives back its text, so no other text has the same project.
        chooser = random.Random(982)
        lines = TEXT.split("\n")
        taken = 0
        for _ in range(3000):
            text = "\n".join(lines)
            for _ in range(chooser.choice((1, 1, 2))):
                k = chooser.randrange(len(text) + 1)
                text = text[:k] + chooser.choice(["", " ", "  ", "\n", "a", "\n  ", "file "]) + text[k + chooser.randrange(3):]
            try:
                project = read_project(text)
            except NotAllowed:
                continue
            self.assertEqual(project_text(project), text)
            taken += 1
        self.assertGreater(taken, 300)


class WrongTextTest(ProjectCase):
    def with_line(self, k, line):
        rows = TEXT.split("\n")
        return "\n".join(rows[:k] + [line] + rows[k + 1:])

    def test_one_line_spoilt(self):
        self.assertEqual(project_text(read_project(self.with_line(5, "  x"))), TEXT)
        for line in ("", "switch a bc", "switches", "switches ", "Switches a bc", " switches a bc", "switches  a bc",
                     "switches a  bc", "switches a bc ", "switches a,bc", "switches bc a", "switches a a", "switches a B",
                     "switches a b1", "switches a bcdefgh", "switches a b c d e f", "switches\ta", "a bc", "grammar",
                     "switches a \u00e4", "switches\u00a0a"):
            self.is_none(self.with_line(0, line))
        for line in ("", "Grammar", " grammar", "grammar ", "grammars", "file grammar", "switches a bc", "  grammar", "file"):
            self.is_none(self.with_line(1, line))
        for line in ("", " x", "x", "\tx", "grammar", "switches a bc", "files x", "file", "File x", " file x"):
            for k in (2, 3, 5, 6, 9):
                self.is_none(self.with_line(k, line))
        for line in ("file ", "file", "file  main", "file main ", "file Main", "file a b", "file a.b", "file abcdefghi",
                     "file b2", "file \u00e4", " file main", "file\tmain", "file main\r", "main", "file _"):
            self.is_none(self.with_line(4, line))
        for line in ("file main", "file ", "file"):
            self.is_none(self.with_line(10, line))

    def test_headings_left_out_twice_or_elsewhere(self):
        rows = TEXT.split("\n")
        self.is_none("\n".join(rows[1:]))
        self.is_none("\n".join(rows[:1] + rows[2:]))
        self.is_none("\n".join(rows[:1] * 2 + rows[1:]))
        self.is_none("\n".join(rows[:2] + rows[1:]))
        self.is_none("\n".join(rows + rows[1:2]))
        self.is_none("\n".join(rows + rows[:1]))
        self.is_none("\n".join(rows[1:2] + rows[:1] + rows[2:]))
        self.is_none("\n".join(rows[:1] + rows[4:] + rows[1:4]))
        self.is_none("\n".join(rows[:1] + rows[2:4] + rows[1:2] + rows[4:]))
        self.is_none("\n".join(["  x"] + rows))
        self.is_none("\n".join(rows[:1] + ["  x"] + rows[1:]))

    def test_how_many_files(self):
        rows = ["switches a", "grammar", "  start S"]
        self.is_none("\n".join(rows))
        files = [f"file f{k}" for k in range(9)]
        self.is_none("\n".join(rows + files))
        self.assertEqual(len(read_project("\n".join(rows + files[:8]))[2]), 8)
        self.is_none("\n".join(rows + files[:2] + files[:1]))
        self.is_none("\n".join(rows + ["file a", "  x", "file a"]))

    def test_short_texts(self):
        for text in ("", "\n", "switches a", "switches a\n", "grammar", "switches a\ngrammar", "switches a\ngrammar\n",
                     "  ", "file main", "switches a\nfile main", "switches a\ngrammar\nfile main\n", TEXT + "\n", "\n" + TEXT):
            self.is_none(text)

    def test_other_ends_of_lines(self):
        self.is_none(TEXT.replace("\n", "\r\n"))
        self.is_none(TEXT.replace("\n", "\r"))


class ShelfOfTest(unittest.TestCase):
    def test_plain_ones(self):
        kept = copy.deepcopy(PROJECT)
        found = shelf_of(PROJECT)
        self.assertIs(type(found), dict)
        self.assertEqual(found, {"main": "x\n\n#if a\n  y\n#end", "b2": ""})
        found["main"] = "y"
        self.assertEqual(PROJECT, kept)
        self.assertEqual(shelf_of(PROJECT)["main"], "x\n\n#if a\n  y\n#end")

    def test_no_line_and_one_empty_line(self):
        project = (("a",), (), (("x", ()), ("y", ("",)), ("z", ("", "")), ("w", ("1",)), ("v", ("1", ""))))
        self.assertEqual(shelf_of(project), {"x": "", "y": "", "z": "\n", "w": "1", "v": "1\n"})


if __name__ == "__main__":
    unittest.main()
