import copy
import doctest
import pathlib
import random
import re
import time
import unittest

from oncefolded.desks import Desk
from oncefolded.errors import BadGrammar, BadShelf, BadToken, NotAllowed, TooMany
from oncefolded.grammar_texts import read_grammar
from oncefolded.projects import read_project
from oncefolded.sessions import Session, tree_text
from tests.helper import (
    PlainText, all_configurations, derivations_by_definition, diagram_where, grammar_lines, reasons_by_definition,
    reasons_text, some_case_words, some_grammar, texts_trees_by_definition, tree_text_by_definition,
    written_by_definition)

SUMS = ("start S", 'rule S = S "+" S', "rule S = number", "bar 0 2 0 {a}")
PAIRS = ("start S", "rule S = S S", "rule S = word")


def session_of(lines, grammar=SUMS, switches=("a", "b"), more=()):
    return Session((switches, grammar, (("main", tuple(lines)),) + tuple(more)))


def state_of(session):
    desk = session.desk()
    texts = {file: desk.text(file) for file in desk.files()}
    return texts, desk.folded(), desk.forest(), desk.alive(), desk.conditions(), desk.read()


class SessionCase(unittest.TestCase):
    def answers(self, session, *rows):
        for line, wanted in rows:
            found = session.run(line)
            self.assertIs(type(found), str)
            self.assertEqual(found, wanted, line)

    def refuse(self, session, *rows):
        """The lines have these answers, and nothing changes."""
        for line, wanted in rows:
            before = state_of(session)
            self.assertEqual(session.run(line), wanted, line)
            self.assertEqual(state_of(session), before, line)

    def text_is(self, session, text, file="main"):
        self.assertEqual(session.desk().text(file), text)


class TreeTextTest(unittest.TestCase):
    def test_plain_ones(self):
        self.assertEqual(tree_text((1, (0,))), "1(#0)")
        self.assertEqual(tree_text((11, (3, 14, 23))), "11(#3 #14 #23)")
        self.assertEqual(tree_text((0, ((1, (0,)), 1, (1, (2,))))), "0(1(#0) #1 1(#2))")
        self.assertEqual(tree_text((2, ((1, ((0, (5,)),)),))), "2(1(0(#5)))")
        self.assertEqual(tree_text((2, (7, (1, ((0, (8,)), 9)), (3, (10, 11))))), "2(#7 1(0(#8) #9) 3(#10 #11))")

    def test_deep_trees(self):
        tree, wanted = 0, "#0"
        for k in range(290):
            tree, wanted = (k % 12, (tree,)), f"{k % 12}({wanted})"
        self.assertEqual(tree_text(tree), wanted)
        tree, wanted = (1, (23,)), "1(#23)"
        for k in reversed(range(23)):
            tree, wanted = (0, ((1, (k,)), tree)), f"0(1(#{k}) {wanted})"
        self.assertEqual(tree_text(tree), wanted)


class ExampleTest(unittest.TestCase):
    def test_the_examples_of_the_document(self):
        lines = ("start S", 'rule S = S "+" S', "rule S = number", "bar 0 2 0")
        session = Session((("a",), lines, (("main", ("1 + 2", "#if a", "+ 3", "#end")),)))
        self.assertEqual(session.run("when"), "none 0 one 1 several 0")
        self.assertEqual(session.run("tree 1 0"), "0(0(1(#0) #1 1(#2)) #3 1(#4))")
        self.assertEqual(session.run("why 1 1"), "bar . 2")
        self.assertEqual(session.run("cut main 9"), "refused")

    def test_all_examples_of_the_document(self):
        path = pathlib.Path(__file__).resolve().parent.parent.parent / "shared" / "DOC.md"
        if not path.exists():
            self.skipTest("the document is not here")
        # The lines that end an example are no part of what it prints.
        text = path.read_text(encoding="utf-8").replace("\n```\n", "\n\n")
        examples = doctest.DocTestParser().get_doctest(text, {}, "DOC.md", str(path), 0)
        result = doctest.DocTestRunner().run(examples)
        self.assertGreater(result.attempted, 15)
        self.assertEqual(result.failed, 0)


class MakeTest(unittest.TestCase):
    def test_a_grammar_with_a_fault(self):
        for grammar, line in ((("start S",), 2), (("start S", "rule S = T"), 2), (("begin S",), 1), ((), 1),
                              (("start S", "rule S = S"), 0), (SUMS + ("bar 0 2 0",), 5)):
            with self.assertRaises(BadGrammar) as caught:
                session_of(["1"], grammar)
            self.assertEqual(caught.exception.line, line)

    def test_a_shelf_with_a_fault(self):
        for lines, wanted in ((["#bad"], ("main", 1, "line")), (["1", "#use more"], ("main", 2, "missing")),
                              (["1", "#if a"], ("main", 2, "open"))):
            with self.assertRaises(BadShelf) as caught:
                session_of(lines)
            self.assertEqual((caught.exception.file, caught.exception.line, caught.exception.word), wanted)
        with self.assertRaises(BadToken) as caught:
            session_of(["1", "1 $"])
        self.assertEqual((caught.exception.row, caught.exception.column), (1, 2))
        self.assertRaises(TooMany, session_of, ["1 " * 25])

    def test_the_first_file_is_the_first_one(self):
        session = Session((("a",), SUMS[:3], (("z", ("1",)), ("a", ("#bad",)), ("main", ("2",)))))
        self.assertEqual(session.run("text 0"), '"1"')

    def test_the_desk(self):
        project = (("a", "b"), SUMS, (("main", ("1", "#use x")), ("x", ())))
        kept = copy.deepcopy(project)
        session = Session(project)
        self.assertIsInstance(session.desk(), Desk)
        self.assertIs(session.desk(), session.desk())
        self.assertEqual(session.desk().files(), ["main", "x"])
        self.assertEqual(session.desk().text("main"), "1\n#use x")
        session.run("set main 0 2")
        self.assertEqual(session.desk().text("main"), "2\n#use x")
        session.desk().edit("main", 0, 1, ["3"])
        self.assertEqual(session.run("text 01"), '"3"')
        self.assertEqual(project, kept)


class EditLinesTest(SessionCase):
    def test_set(self):
        session = session_of(["1", "+", "2"])
        self.answers(session, ("set main 0 7", "ok"), ("set main 2 8 + 9", "ok"))
        self.text_is(session, "7\n+\n8 + 9")
        self.answers(session, ("set main 1   +  ", "ok"))
        self.text_is(session, "7\n  +  \n8 + 9")
        self.answers(session, ("set main 1  ", "ok"), ("set main 2 ", "ok"))
        self.text_is(session, "7\n \n")
        self.refuse(session, ("set main 3 x", "refused"), ("set main 4 x", "refused"), ("set main 9999 x", "refused"),
                    ("set other 0 x", "refused"), ("set other 1 x", "refused"), ("set Bad! 0 x", "refused"))

    def test_add(self):
        session = session_of(["1"])
        self.answers(session, ("add main 1 + 2", "ok"), ("add main 0 3 +", "ok"), ("add main 3 ", "ok"),
                     ("add main 1  ", "ok"))
        self.text_is(session, "3 +\n \n1\n+ 2\n")
        self.refuse(session, ("add main 6 x", "refused"), ("add main 9999 ", "refused"), ("add other 1 x", "refused"))
        self.answers(session, ("add other 0 x y ", "ok"), ("add other 1 z", "ok"), ("add other 0 ", "ok"))
        self.text_is(session, "\nx y \nz", "other")
        self.answers(session, ("add new 0 ", "ok"))
        self.text_is(session, "", "new")
        self.refuse(session, ("add new 1 x", "refused"), ("set new 0 x", "refused"), ("cut new 0", "refused"))
        self.answers(session, ("add new 0 x", "ok"))
        self.text_is(session, "x", "new")

    def test_cut(self):
        session = session_of(["1", "+", "2"])
        self.refuse(session, ("cut main 3", "refused"), ("cut main 10", "refused"), ("cut other 0", "refused"))
        self.answers(session, ("cut main 2", "ok"), ("cut main 0", "ok"))
        self.text_is(session, "+")
        self.answers(session, ("cut main 0", "ok"))
        self.text_is(session, "")
        self.refuse(session, ("cut main 0", "refused"), ("set main 0 x", "refused"))
        self.assertEqual(session.desk().files(), ["main"])

    def test_drop(self):
        session = session_of(["1", "#use more"], more=[("more", ("+ 2",)), ("free", ("$",))])
        self.refuse(session, ("drop main", "line main 0 missing"), ("drop more", "line main 2 missing"),
                    ("drop other", "refused"), ("drop Bad!", "refused"))
        self.answers(session, ("drop free", "ok"), ("drop free", "refused"), ("cut main 1", "ok"), ("drop more", "ok"))
        self.assertEqual(session.desk().files(), ["main"])

    def test_names_that_no_file_has(self):
        session = session_of(["1"])
        for file in ("Main", "main.x", "123456789", "a-b", "\u00e4", "#", "0!", "a\tb", "a\nb", '"x"', "main\n"):
            self.refuse(session, (f"set {file} 0 x", "refused"), (f"add {file} 0 x", "refused"),
                        (f"cut {file} 0", "refused"), (f"drop {file}", "refused"))

    def test_lines_with_a_newline(self):
        session = session_of(["1"])
        self.refuse(session, ("set main 0 1\n2", "refused"), ("add main 0 \n", "refused"), ("add new 0 1\n", "refused"))

    def test_refusals(self):
        session = session_of(["1", "#if a", "#use more", "#end"], more=[("more", ("+ 2",)), ("bad", ("1 $",))])
        self.refuse(
            session, ("set main 0 #bad", "line main 1 line"), ("cut main 3", "line main 2 open"),
            ("cut main 1", "line main 3 line"), ("set main 1 #if c", "line main 2 formula"),
            ("add more 0 #use main", "line more 1 ring"), ("add more 1 #use more", "line more 2 ring"),
            ("add main 0 #use none", "line main 1 missing"), ("add main 0 #use bad", "token 0 2"),
            ("set more 0 + $", "token 1 2"), ("add more 0 \u00e4", "line more 1 line"), ("set main 0 %", "token 0 0"),
            ("set main 0 " + "1 " * 23, "many"), ("set main 0 " + "1 " * 30, "many"), ("set main 0 " + "1" * 61, "line main 1 line"))
        self.answers(session, ("set main 0 " + "1 " * 22, "ok"))

    def test_deep_and_long(self):
        session = session_of(["1", "#use a"], more=[("a", ("#use b",)), ("b", ("#use c",)), ("c", ())])
        self.refuse(session, ("add c 0 #use d", "line c 1 missing"))
        self.answers(session, ("add d 0 1", "ok"))
        self.refuse(session, ("add c 0 #use d", "line c 1 deep"))
        for _ in range(39):
            self.answers(session, ("add main 0  ", "ok"))
        self.refuse(session, ("add main 0  ", "line main 41 long"), ("add c 0 1", "line c 1 long"))
        for _ in range(6):
            session.run("add d 0 #if a")
        self.answers(session, ("cut main 0", "ok"), ("add c 0 #if a", "line c 1 open"))


class BadLinesTest(SessionCase):
    def test_numbers(self):
        session = session_of(["1"] * 3)
        for number in ("00", "01", "+1", "-1", "-0", "10000", "99999", "1.0", "1_0", "a", "\u0661", "\u00b2", "0x1", "1\n", "\t1"):
            self.refuse(session, (f"set main {number} x", "bad"), (f"add main {number} x", "bad"),
                        (f"cut main {number}", "bad"), (f"tree 00 {number}", "bad"), (f"why 00 {number}", "bad"))

    def test_configurations(self):
        session = session_of(["1"])
        for bits in ("0", "000", "02", "a", "ab", "0a", "", "-1", "1,0", "\u0661\u0660", "0 0", "True", "00\n", "0b"):
            self.refuse(session, (f"count {bits}", "bad"), (f"tree {bits} 0", "bad"), (f"why {bits} 0", "bad"),
                        (f"text {bits}", "bad"))

    def test_lines_of_no_form(self):
        session = session_of(["1"])
        for line in ("", " ", "set", "set ", "set main", "set main ", "set main 0", "set  0 x", "set main  0 x", " set main 0 x",
                     "add", "add main", "add main 0", "add main x", "add  main 0 x", "add main 0\tx", "cut", "cut main",
                     "cut main ", "cut main 0 ", "cut main 0 x", "cut  0", "cut main  0", " cut main 0", "drop", "drop ",
                     "drop  ", "drop main ", "drop main x", " drop main", "drop  main", "when ", " when", "when 00",
                     "whenever", "count", "count ", "count 00 ", "count  00", " count 00", "count 00 0", "tree", "tree 00",
                     "tree 00 ", "tree  0", "tree 00  0", "tree 00 0 ", "tree 00 0 0", "tree 0 00", "why", "why 00", "why 00 ",
                     "why 00 0 0", "why 0 00", "text", "text ", "text 00 ", "text 00 0", "sure ", " sure", "sure 00", "help",
                     "00", "main", "0", "none", "\n", "when\n", "text\n00", "set\tmain\t0\tx", "trees 00 0"):
            self.refuse(session, (line, "bad"))

    def test_capital_letters(self):
        session = session_of(["1"])
        for line in ("set main 0 x", "add main 0 x", "cut main 0", "drop main", "when", "count 00", "tree 00 0", "why 00 0",
                     "text 00", "sure"):
            self.refuse(session, (line.upper(), "bad"), (line.capitalize(), "bad"))
            self.refuse(session, (" " + line, "bad"))
            if not line.endswith("x"):
                self.refuse(session, (line + " ", "bad"))


class AskTest(SessionCase):
    def test_when(self):
        self.answers(session_of([]), ("when", "none 1 one 0 several 0"))
        self.answers(session_of(["1 + 2"]), ("when", "none 0 one 1 several 0"))
        self.answers(session_of(["1 + 2 + 3"]), ("when", "none 0 one a?1:0 several a?0:1"))
        self.answers(session_of(["1 + 2", "#if b", "+ 3", "#end"]), ("when", "none 0 one a?1:(b?0:1) several a?0:(b?1:0)"))
        self.answers(session_of(["1 +", "#if b", "3", "#end"]), ("when", "none b?0:1 one b?1:0 several 0"))

    def test_count(self):
        session = session_of(["1 + 2", "#if b", "+ 3", "#end"])
        self.answers(session, ("count 00", "1"), ("count 01", "2"), ("count 10", "1"), ("count 11", "1"))
        self.answers(session_of([]), ("count 00", "0"))
        self.answers(session_of(["#if a", "1", "#end"]), ("count 00", "0"), ("count 10", "1"))
        self.answers(session_of(["w " * 24], PAIRS), ("count 01", "343059613650"))

    def test_tree(self):
        session = session_of(["1 + 2", "#if b", "+ 3", "#end"])
        left, right = "0(0(1(#0) #1 1(#2)) #3 1(#4))", "0(1(#0) #1 0(1(#2) #3 1(#4)))"
        first, second = (left, right) if session.run("tree 01 0") == left else (right, left)
        self.answers(session, ("tree 00 0", "0(1(#0) #1 1(#2))"), ("tree 00 1", "none"), ("tree 01 0", first),
                     ("tree 01 1", second), ("tree 01 2", "none"), ("tree 11 0", left), ("tree 11 1", "none"),
                     ("tree 11 9999", "none"))
        self.answers(session_of([]), ("tree 00 0", "none"))
        self.answers(session_of(["+"]), ("tree 00 0", "none"))

    def test_why(self):
        session = session_of(["1 + 2 + 3"])
        self.answers(session, ("why 00 0", "allowed"), ("why 00 1", "allowed"), ("why 00 2", "none"), ("why 10 2", "none"))
        self.assertEqual({session.run("why 10 0"), session.run("why 10 1")}, {"allowed", "bar . 2"})
        self.answers(session_of([]), ("why 00 0", "none"))
        grammar = ("start S", "rule S = word S glued:0 row:0:1", "rule S = word", "bar 0 1 0", "bar 0 1 1 {b}")
        session = session_of(["x y", "z"], grammar)
        self.answers(session, ("why 00 0", "bar . 1; demand . 0; demand 1 0; demand 1 1"),
                     ("why 01 0", "bar . 1; bar 1 1; demand . 0; demand 1 0; demand 1 1"))
        session = session_of(["x y z u"], grammar)
        self.answers(session, ("why 01 0", "bar . 1; bar 1 1; bar 1.1 1; demand . 0; demand 1 0; demand 1.1 0"))

    def test_text(self):
        session = session_of(["1  + 2 ", "#if a", "", " ", "#end", "#if b", "+ 3", "#end"])
        self.answers(session, ("text 00", '"1  + 2 "'), ("text 10", '"1  + 2 " "" " "'), ("text 01", '"1  + 2 " "+ 3"'),
                     ("text 11", '"1  + 2 " "" " " "+ 3"'))
        self.answers(session_of([]), ("text 00", "-"))
        self.answers(session_of(["#if a", "1", "#end"]), ("text 01", "-"), ("text 11", '"1"'))
        self.answers(session_of(["", ""]), ("text 01", '"" ""'))
        self.answers(session_of([""]), ("text 01", "-"))

    def test_more_than_three_hundred(self):
        grammar = ["start S"] + ["rule S = A S"] * 2 + ["rule S = A"] * 5 + ["rule A = word", "rule A = word word"]
        session = session_of(["w w w w w"], tuple(grammar))
        self.answers(session, ("count 00", "300"), ("tree 00 300", "none"), ("why 00 300", "none"), ("why 00 299", "allowed"))
        self.assertEqual(len({session.run(f"tree 00 {k}") for k in range(300)}), 300)
        session = session_of(["w w w w w w"], tuple(grammar))
        self.answers(session, ("tree 00 0", "many"), ("why 00 0", "many"), ("tree 00 9999", "many"), ("why 11 9999", "many"))
        self.answers(session, ("tree 000 0", "bad"), ("tree 00 00", "bad"))
        self.assertGreater(int(session.run("count 00")), 300)
        self.answers(session, ("when", "none 0 one 0 several 1"), ("sure", "yes"))

    def test_more_than_three_hundred_derivations_of_which_few_are_trees(self):
        session = session_of(["w " * 24], PAIRS + ("bar 0 1 0 {a}",))
        wanted = "1(#0)"
        for k in range(1, 24):
            wanted = f"0({wanted} 1(#{k}))"
        self.answers(session, ("count 10", "1"), ("tree 10 0", wanted), ("tree 10 1", "none"), ("why 10 0", "many"),
                     ("tree 00 0", "many"), ("when", "none 0 one a?1:0 several a?0:1"), ("sure", "yes"))

    def test_sure(self):
        for lines in ([], ["1"], ["1 +"], ["1 + 2", "#if b", "+ 3", "#else", "+", "#end"], ["w"], ["1 + 2 + 3 + 4"]):
            self.answers(session_of(lines), ("sure", "yes"))

    def test_asking_changes_nothing(self):
        session = session_of(["1 + 2", "#if b", "+ 3", "#end"])
        self.refuse(session, *[(line, session.run(line)) for line in (
            "when", "count 01", "tree 01 0", "tree 01 7", "why 11 1", "why 11 7", "text 11", "sure")])

    def test_after_edits(self):
        session = session_of(["1 + 2"])
        self.answers(session, ("add main 1 #if a", "line main 2 open"), ("add more 0 + 3", "ok"),
                     ("add main 1 #use more", "ok"), ("count 00", "2"), ("text 00", '"1 + 2" "+ 3"'), ("count 10", "1"),
                     ("set more 0 +", "ok"), ("when", "none 1 one 0 several 0"), ("tree 00 0", "none"), ("sure", "yes"),
                     ("cut more 0", "ok"), ("count 00", "1"), ("sure", "yes"))


class DrawnSessionsTest(SessionCase):
    """All answers are those that are worked out plainly for each configuration."""
    NAMES = ("a", "b")

    def check(self, session, shelf, grammar):
        plain = PlainText(shelf, "main", self.NAMES)
        many = {}
        for config in all_configurations(2):
            bits = "".join(map(str, config))
            trees = texts_trees_by_definition(grammar, plain.folded, config)
            derived = derivations_by_definition(grammar, plain.folded, config)
            many[config] = len(trees)
            texts = " ".join(f'"{text}"' for text in plain.chosen(config)) or "-"
            self.answers(session, (f"text {bits}", texts), (f"count {bits}", str(len(trees))))
            for word, found in (("tree", [tree_text_by_definition(tree) for tree in trees]),
                                ("why", [reasons_text(reasons_by_definition(grammar, plain.folded, config, tree))
                                         for tree in derived])):
                for k in sorted({0, 1, 2, len(found) - 1, len(found), len(found) + 5} - {-1}):
                    wanted = "many" if len(found) > 300 else found[k] if k < len(found) else "none"
                    self.answers(session, (f"{word} {bits} {k}", wanted if k < 10000 else "bad"))
        when = [diagram_where(told, 2) for told in (
            lambda c: many[c] == 0, lambda c: many[c] == 1, lambda c: many[c] > 1)]
        none, one, several = [written_by_definition(d, self.NAMES) for d in when]
        self.answers(session, ("when", f"none {none} one {one} several {several}"), ("sure", "yes"))
        return sum(many.values())

    def some_lines(self, chooser, words):
        """Lines with the words in their order, some of them under conditions."""
        lines = []
        while words:
            size = chooser.randint(1, 3)
            line = words[0]
            for word in words[1:size]:
                apart = word[0].isalnum() and line[-1].isalnum() or chooser.random() < 0.6
                line += (" " * chooser.randint(1, 2) if apart else "") + word
            words = words[size:]
            found = [" " * chooser.choice((0, 0, 0, 1, 3)) + line]
            if chooser.random() < 0.4:
                found = ["#if " + chooser.choice(("a", "b", "!a", "a&b", "a|b", "a & !b"))] + found + ["#end"]
                if words and chooser.random() < 0.4:
                    found[-1:] = ["#else", words[0], "#end"]
                    words = words[1:]
            lines += found
        return lines

    def run_edit(self, chooser, session, shelf, words):
        """Run an edit; the shelf follows, if it is not refused."""
        file = chooser.choice(("main", "sub"))
        lines = shelf[file].split("\n") if shelf[file] else []
        k = chooser.randrange(len(lines) + 1)
        text = chooser.choice(words + ["", " ", "#use sub", "#if a", "#end", "#else", " ".join(words[:2])])
        word = chooser.choice(("set", "add", "cut"))
        before = state_of(session)
        answer = session.run(f"{word} {file} {k}" + (f" {text}" if word != "cut" else ""))
        if answer == "ok":
            lines[k:k + (word != "add")] = [text] if word != "cut" else []
            shelf[file] = "\n".join(lines)
        else:
            self.assertRegex(answer, "^(refused|line (main|sub) [0-9]+ [a-z]+|token [0-9]+ [0-9]+|many)$")
            self.assertEqual(state_of(session), before)
        return answer

    def test_drawn_projects_and_edits(self):
        chooser = random.Random(991)
        trees, done = 0, {"ok": 0}
        for _ in range(110):
            grammar = some_grammar(chooser, 2)
            words = some_case_words(chooser, grammar, 5)
            lines = self.some_lines(chooser, words)
            shelf = {"main": "\n".join(lines), "sub": chooser.choice(["", words[0]])}
            files = tuple((file, tuple(text.split("\n") if text else ())) for file, text in shelf.items())
            text_lines = tuple(grammar_lines(grammar, self.NAMES))
            self.assertEqual(read_grammar(self.NAMES, "\n".join(text_lines)), grammar)
            session = Session((self.NAMES, text_lines, files))
            trees += self.check(session, shelf, grammar)
            for _ in range(4):
                answer = self.run_edit(chooser, session, shelf, words).split(" ")[0]
                done[answer] = done.get(answer, 0) + 1
                if len(session.desk().folded()) > 6:
                    break
                trees += self.check(session, shelf, grammar)
        self.assertGreater(trees, 300)
        self.assertGreater(done["ok"], 100)
        self.assertGreater(done["line"], 20)

    def test_never_an_error(self):
        chooser = random.Random(992)
        words = ["set", "add", "cut", "drop", "when", "count", "tree", "why", "text", "sure", "main", "sub", "x", "0", "1",
                 "00", "01", "11", "2", "9999", "#if a", "#end", "#use sub", "1 + 2", "$", "", " ", "\n", "\u00e4", "+"]
        session = session_of(["1 + 2", "#if a", "#use sub", "#end"], more=[("sub", ("+ 3",))])
        seen = {}
        for _ in range(4000):
            line = " ".join(chooser.choice(words) for _ in range(chooser.choice((1, 2, 2, 3, 3, 4, 4, 5))))
            if chooser.random() < 0.3:
                line = " ".join(chooser.choice(row) for row in (words[:3], words[10:12], words[13:15], words[20:]))
            before = state_of(session)
            answer = session.run(line)
            self.assertIs(type(answer), str)
            seen[answer.split(" ")[0]] = True
            if answer != "ok":
                self.assertEqual(state_of(session), before)
        for word in ("ok", "bad", "refused", "line", "token", "none"):
            self.assertIn(word, seen)


class LargeSessionTest(SessionCase):
    def test_four_files_and_twenty_four_tokens(self):
        text = "\n".join([
            "switches a b c d e", "grammar", "  start P", "  rule P = L P", "  rule P = L", '  rule L = word "=" V {a|b|!e}',
            "  rule L = V {!e}", '  rule V = E ";"', '  rule E = E "+" E', '  rule E = E "*" E', "  rule E = number",
            "  rule E = word {d|a}", '  rule E = "(" E ")" glued:1', "  bar 6 0 5 {a}", "  bar 6 2 5 {a}", "  bar 6 2 6 {a|c}",
            "  bar 5 2 5 {a&!c}", "file main",
            "  x = 1 + 2", "  #if a", "  #use one", "  #else", "  #use two", "  #end", "  #use three", "file one", "  * 3 + 4",
            "  #if b&c", "  + (y)", "  #end", "file two", "  * y", "  #if d|e", "  * 5", "  #end", "file three", "  + 6 ;"])
        begin = time.perf_counter()
        session = Session(read_project(text))
        lines = ["when", "sure"] + [f"{word} {bits}" for bits in ("00000", "11111", "10101", "01110", "10010")
                                    for word in ("count", "text", "tree", "why")]
        edits = ["add three 0 * 7 + 8", "set main 0 x = 1 + 2 + 9", "add one 0 #use three", "cut one 0", "add two 0 + 3 + 3",
                 "set three 1 + 6 * 2", "drop two", "drop three", "add four 0 + 1 ;", "add main 0 #use four", "set three 1 ;"]
        sizes, counts = [], {}
        for edit in [None] + edits:
            if edit:
                self.assertNotEqual(session.run(edit), "bad")
            sizes.append(len(session.desk().folded()))
            for config in all_configurations(5):
                counts[min(int(session.run("count " + "".join(map(str, config)))), 2)] = True
            for line in lines:
                line += " 0" if re.match("tree|why", line) else ""
                now = time.perf_counter()
                self.assertNotEqual(session.run(line), "bad", line)
                self.assertLess(time.perf_counter() - now, 5, line)
            self.answers(session, ("sure", "yes"))
        self.assertEqual(max(sizes), 24)
        self.assertEqual(sorted(counts), [0, 1, 2])
        self.assertLess(time.perf_counter() - begin, 120)

    def test_very_many_trees(self):
        names = ("a", "b", "c", "d", "e")
        grammar = ("start S", "rule S = S S S {a|e}", "rule S = S S", "rule S = word", "bar 1 1 1 {b&c}")
        lines = [line for k in range(8) for line in (f"#if {names[k % 5]}|{names[k // 2]}", f"w{k} x y", "#end")]
        session = session_of(lines, grammar, names)
        for line in ("when", "sure", "count 11111", "tree 11111 0", "why 11111 0", "set main 1 x y z", "when", "sure"):
            now = time.perf_counter()
            self.assertNotIn(session.run(line), ("bad", "no"))
            self.assertLess(time.perf_counter() - now, 8, line)
        self.answers(session, ("tree 11111 0", "many"), ("why 11111 0", "many"))


class DeskErrorTest(unittest.TestCase):
    def test_the_desk_raises_what_the_session_answers(self):
        session = session_of(["1"])
        self.assertRaises(NotAllowed, session.desk().edit, "main", 0, 2, [])
        self.assertEqual(session.run("cut main 1"), "refused")


if __name__ == "__main__":
    unittest.main()
