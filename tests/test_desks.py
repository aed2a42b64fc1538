import copy
import random
import time
import unittest

from oncefolded.alive import alive_forest
from oncefolded.conditions import conditions
from oncefolded.desks import Desk
from oncefolded.errors import BadShelf, BadToken, NotAllowed, TooMany
from oncefolded.forests import make_forest
from oncefolded.grammar_texts import read_grammar
from oncefolded.shelves import fold
from oncefolded.tokens import fold_tokens
from tests.helper import some_cases

AB = ("a", "b")
SUMS = read_grammar(AB, 'start S\nrule S = S "+" S\nrule S = number\nrule S = word {b}\nbar 0 2 0 {a}')
SHELF = {"main": "1\n#if a\n#use more\n#end\n+ 2", "more": "+ 3", "free": "$", "empty": ""}


def contents_of(folded):
    """The contents of all rows of neighbouring tokens."""
    triples = [(token[0], token[1], d) for token, d in folded]
    return {tuple(triples[i:j]) for i in range(len(triples)) for j in range(i + 1, len(triples) + 1)}


def state_of(desk):
    texts = {file: desk.text(file) for file in desk.files()}
    return texts, desk.files(), desk.folded(), desk.forest(), desk.alive(), desk.conditions(), desk.read()


class DeskCase(unittest.TestCase):
    def made_anew(self, desk, grammar=SUMS, switches=AB, name="main"):
        """All that the desk has is what one gets from its texts alone."""
        shelf = {file: desk.text(file) for file in desk.files()}
        folded = fold_tokens(fold(shelf, name, switches))
        forest = make_forest(grammar, folded)
        alive = alive_forest(grammar, folded, forest)
        self.assertEqual(desk.folded(), folded)
        self.assertEqual(desk.forest(), forest)
        self.assertEqual(desk.alive(), alive)
        self.assertEqual(desk.conditions(), conditions(grammar, folded, alive))
        anew = Desk(grammar, switches, shelf, name)
        self.assertEqual(state_of(anew)[:6], state_of(desk)[:6])

    def refused(self, desk, error, call, *told):
        """The call raises the error, with what it tells, and nothing changes."""
        before = state_of(desk)
        with self.assertRaises(error) as caught:
            call()
        self.assertIs(type(caught.exception), error)
        if error is BadShelf:
            self.assertEqual((caught.exception.file, caught.exception.line, caught.exception.word), told)
        if error is BadToken:
            self.assertEqual((caught.exception.row, caught.exception.column), told)
        self.assertEqual(state_of(desk), before)


class DeskTest(DeskCase):
    def test_a_new_desk(self):
        desk = Desk(SUMS, AB, SHELF, "main")
        self.made_anew(desk)
        self.assertEqual(desk.files(), ["empty", "free", "main", "more"])
        self.assertEqual([desk.text(file) for file in desk.files()], ["", "$", SHELF["main"], "+ 3"])
        self.assertEqual([token[1] for token, _ in desk.folded()], ["1", "+", "3", "+", "2"])
        self.assertEqual(desk.read(), len(contents_of(desk.folded())))
        self.assertEqual(desk.conditions(), (False, True, False))

    def test_kinds(self):
        desk = Desk(SUMS, AB, SHELF, "main")
        self.assertIs(type(desk.files()), list)
        self.assertIs(type(desk.folded()), list)
        self.assertIs(type(desk.forest()), dict)
        self.assertIs(type(desk.alive()), dict)
        self.assertIs(type(desk.conditions()), tuple)
        self.assertIs(type(desk.read()), int)
        self.assertIsNone(desk.edit("main", 0, 0, []))
        self.assertIsNone(desk.drop("free"))

    def test_what_making_a_desk_raises(self):
        for shelf, name, wanted in (({"main": "1"}, "more", ("more", 0, "missing")), ({}, "main", ("main", 0, "missing")),
                                    ({"main": "1\n#use x"}, "main", ("main", 2, "missing")),
                                    ({"main": "#if a"}, "main", ("main", 1, "open"))):
            with self.assertRaises(BadShelf) as caught:
                Desk(SUMS, AB, shelf, name)
            self.assertEqual((caught.exception.file, caught.exception.line, caught.exception.word), wanted)
        with self.assertRaises(BadToken) as caught:
            Desk(SUMS, AB, {"main": "1\n1 $"}, "main")
        self.assertEqual((caught.exception.row, caught.exception.column), (1, 2))
        self.assertRaises(TooMany, Desk, SUMS, AB, {"main": "1 " * 24 + "\n1"}, "main")

    def test_no_tokens(self):
        for text in ("", "\n", "#if a\n#end", "#if 0\n1\n#end"):
            desk = Desk(SUMS, AB, {"main": text}, "main")
            self.assertEqual((desk.folded(), desk.forest(), desk.alive(), desk.read()), ([], {}, {}, 0))
            self.assertEqual(desk.conditions(), (True, False, False))

    def test_another_first_file(self):
        desk = Desk(SUMS, AB, SHELF, "more")
        self.assertEqual([token[1] for token, _ in desk.folded()], ["+", "3"])
        desk.edit("more", 0, 1, ["3"])
        self.made_anew(desk, name="more")
        desk.drop("main")
        self.refused(desk, BadShelf, lambda: desk.drop("more"), "more", 0, "missing")

    def test_text_of_a_file_that_there_is_not(self):
        desk = Desk(SUMS, AB, SHELF, "main")
        for file in ("none", "", "Main", "main ", "a b"):
            self.refused(desk, NotAllowed, lambda: desk.text(file))


class EditTest(DeskCase):
    def test_lines_put_in_changed_and_taken_out(self):
        desk = Desk(SUMS, AB, {"main": "1\n+\n2"}, "main")
        for first, count, lines, wanted in (
                (0, 0, ["3 +"], "3 +\n1\n+\n2"), (4, 0, ["+ 4", "", "+ 5"], "3 +\n1\n+\n2\n+ 4\n\n+ 5"),
                (1, 2, ["w +"], "3 +\nw +\n2\n+ 4\n\n+ 5"), (2, 3, [], "3 +\nw +\n+ 5"), (2, 1, ["  5"], "3 +\nw +\n  5"),
                (0, 3, ["7", "8"], "7\n8"), (1, 1, ["8 "], "7\n8 "), (0, 0, [], "7\n8 "), (2, 0, [], "7\n8 ")):
            desk.edit("main", first, count, lines)
            self.assertEqual(desk.text("main"), wanted)
            self.made_anew(desk)

    def test_texts_without_lines(self):
        desk = Desk(SUMS, AB, {"main": "1"}, "main")
        for first, count, lines, wanted in (
                (0, 1, [], ""), (0, 0, [""], ""), (0, 0, ["", ""], "\n"), (0, 2, [""], ""), (0, 0, ["2"], "2"),
                (0, 1, [""], ""), (0, 0, ["", "3"], "\n3"), (1, 1, [], ""), (0, 0, [], "")):
            desk.edit("main", first, count, lines)
            self.assertEqual(desk.text("main"), wanted)
            self.assertEqual(desk.files(), ["main"])
            self.made_anew(desk)
        # The empty text has no lines, not one that is empty.
        self.refused(desk, NotAllowed, lambda: desk.edit("main", 0, 1, ["1"]))
        self.refused(desk, NotAllowed, lambda: desk.edit("main", 1, 0, ["1"]))

    def test_a_new_file(self):
        desk = Desk(SUMS, AB, {"main": "1"}, "main")
        desk.edit("new", 0, 0, ["+ 2", "+ 3"])
        desk.edit("a1", 0, 0, [])
        desk.edit("12345678", 0, 0, [""])
        self.assertEqual(desk.files(), ["12345678", "a1", "main", "new"])
        self.assertEqual([desk.text(file) for file in desk.files()], ["", "", "1", "+ 2\n+ 3"])
        desk.edit("main", 1, 0, ["#use new", "#use a1"])
        self.made_anew(desk)
        for first, count in ((0, 1), (1, 0), (-1, 0), (0, -1), (-1, 1), (1, -1), (5, 5)):
            self.refused(desk, NotAllowed, lambda: desk.edit("other", first, count, ["1"]))
        self.assertNotIn("other", desk.files())

    def test_numbers_beyond_the_lines(self):
        desk = Desk(SUMS, AB, {"main": "1\n+\n2"}, "main")
        for first, count in ((-1, 0), (0, -1), (-1, 1), (-1, 4), (4, 0), (0, 4), (3, 1), (2, 2), (1, 3), (4, -1), (5, -2),
                             (-3, 3), (10 ** 20, 0), (0, 10 ** 20)):
            self.refused(desk, NotAllowed, lambda: desk.edit("main", first, count, ["1"]))
            self.refused(desk, NotAllowed, lambda: desk.edit("main", first, count, []))
        for first, count in ((3, 0), (0, 3), (2, 1), (0, 0)):
            Desk(SUMS, AB, {"main": "1\n+\n2"}, "main").edit("main", first, count, ["1"])

    def test_new_lines_and_names(self):
        desk = Desk(SUMS, AB, {"main": "1\n+\n2"}, "main")
        for lines in (["1\n2"], ["\n"], ["1", "2\n"], ["\n1", "2"]):
            self.refused(desk, NotAllowed, lambda: desk.edit("main", 0, 0, lines))
            self.refused(desk, NotAllowed, lambda: desk.edit("other", 0, 0, lines))
        for file in ("", "Main", "main.x", "a b", "123456789", "a\n", "\u00e4", "_"):
            self.refused(desk, NotAllowed, lambda: desk.edit(file, 0, 0, ["1"]))
            self.refused(desk, NotAllowed, lambda: desk.edit(file, 0, 0, []))
        # What is not allowed counts ahead of what is not fine.
        self.refused(desk, NotAllowed, lambda: desk.edit("main", 0, 4, ["#bad"]))
        self.refused(desk, NotAllowed, lambda: desk.edit("main", 0, 0, ["#bad", "1\n2"]))

    def test_what_is_not_fine(self):
        desk = Desk(SUMS, AB, SHELF, "main")
        self.refused(desk, BadShelf, lambda: desk.edit("main", 0, 0, ["#bad"]), "main", 1, "line")
        self.refused(desk, BadShelf, lambda: desk.edit("main", 1, 1, []), "main", 3, "line")
        self.refused(desk, BadShelf, lambda: desk.edit("more", 1, 0, ["#use main"]), "more", 2, "ring")
        self.refused(desk, BadShelf, lambda: desk.edit("more", 0, 0, ["#if c", "#end"]), "more", 1, "formula")
        self.refused(desk, BadShelf, lambda: desk.edit("main", 3, 1, []), "main", 2, "open")
        self.refused(desk, BadShelf, lambda: desk.edit("main", 0, 0, ["#use new"]), "main", 1, "missing")
        self.refused(desk, BadShelf, lambda: desk.edit("main", 0, 0, [""] * 41), "main", 41, "long")
        self.refused(desk, BadToken, lambda: desk.edit("more", 0, 1, ["+  $3"]), 1, 3)
        self.refused(desk, BadToken, lambda: desk.edit("main", 0, 0, ["#use free"]), 0, 0)
        self.refused(desk, TooMany, lambda: desk.edit("more", 0, 0, ["1 " * 20]))
        desk.edit("more", 0, 0, ["1 " * 19])
        self.made_anew(desk)

    def test_a_file_that_is_not_read_may_have_any_line(self):
        desk = Desk(SUMS, AB, SHELF, "main")
        before = desk.read()
        desk.edit("free", 1, 0, ["#bad", "\u00e4", "#use free", "x" * 100])
        self.assertEqual(desk.text("free"), "$\n#bad\n\u00e4\n#use free\n" + "x" * 100)
        self.assertEqual(desk.read(), before)
        self.made_anew(desk)

    def test_drop(self):
        desk = Desk(SUMS, AB, SHELF, "main")
        for file in ("none", "", "a b", "Main"):
            self.refused(desk, NotAllowed, lambda: desk.drop(file))
        self.refused(desk, BadShelf, lambda: desk.drop("main"), "main", 0, "missing")
        self.refused(desk, BadShelf, lambda: desk.drop("more"), "main", 3, "missing")
        desk.drop("free")
        desk.drop("empty")
        self.assertEqual(desk.files(), ["main", "more"])
        self.refused(desk, NotAllowed, lambda: desk.drop("free"))
        self.refused(desk, NotAllowed, lambda: desk.text("free"))
        desk.edit("main", 2, 1, [])
        desk.drop("more")
        self.assertEqual(desk.files(), ["main"])
        self.made_anew(desk)


class ReadTest(DeskCase):
    def test_rows_and_columns_do_not_matter(self):
        desk = Desk(SUMS, AB, {"main": "1 + 2"}, "main")
        self.assertEqual(desk.read(), 6)
        for lines in (["1", "+", "2"], ["1+2"], ["   1  + 2 "], ["", "1 +", "", "2"]):
            desk.edit("main", 0, len(desk.text("main").split("\n")), lines)
            self.assertEqual(desk.read(), 6)
            self.made_anew(desk)

    def test_each_different_content_once(self):
        desk = Desk(SUMS, AB, {"main": "1 1 1"}, "main")
        self.assertEqual(desk.read(), 3)
        desk.edit("main", 0, 1, ["1 1"])
        self.assertEqual(desk.read(), 3)
        desk.edit("main", 0, 1, ["1 1 1 1"])
        self.assertEqual(desk.read(), 4)
        desk.edit("main", 0, 1, ["1 2"])
        self.assertEqual(desk.read(), 6)
        desk.edit("main", 0, 1, ["1 1 1 1"])
        self.assertEqual(desk.read(), 6)

    def test_kinds_texts_and_diagrams_matter(self):
        desk = Desk(SUMS, AB, {"main": "1"}, "main")
        for many, lines in enumerate((["2"], ["w"], ["+"], ["#if a", "1", "#end"], ["#if b", "1", "#end"],
                                      ["#if !!b", "1", "#end"], ["1 "])):
            desk.edit("main", 0, len(desk.text("main").split("\n")), lines)
            self.assertEqual(desk.read(), min(many + 2, 6))

    def test_refused_edits_do_not_count(self):
        desk = Desk(SUMS, AB, {"main": "1"}, "main")
        self.refused(desk, BadToken, lambda: desk.edit("main", 0, 1, ["2 3 $"]), 0, 4)
        self.refused(desk, TooMany, lambda: desk.edit("main", 0, 1, ["2 " * 25]))
        self.refused(desk, NotAllowed, lambda: desk.edit("main", 0, 2, ["2"]))
        self.assertEqual(desk.read(), 1)
        desk.edit("main", 0, 1, ["2"])
        self.assertEqual(desk.read(), 2)

    def test_across_lines(self):
        desk = Desk(SUMS, AB, {"main": "1\n2\n3"}, "main")
        self.assertEqual(desk.read(), 6)
        desk.edit("main", 1, 1, [])
        self.assertEqual(desk.read(), 7)


POOL = ["1", "2 +", "+ 3", "w", "1 + w", "", "  ", "#if a", "#if !b", "#else", "#end", "#use more", "#use x1", "$", "#bad",
        "#if a\n", "1 " * 9, "x", "+", "+1", "1 $", "_", "w " * 22, "1 " * 25]
BLOCKS = [["#if a", "1 +", "#end"], ["#if a&b", "+ 2", "#else", "+ w", "#end"], ["#use more"], ["#if b", "#use x1", "#end"],
          ["1", "+ 2"], ["", ""], []]


class DrawnEditsTest(DeskCase):
    def test_many(self):
        chooser = random.Random(971)
        done = {error: 0 for error in (None, NotAllowed, BadShelf, BadToken, TooMany)}
        for _ in range(40):
            shelf = {"main": "1\n+ 2", "more": "+ w", "x1": ""}
            desk = Desk(SUMS, AB, shelf, "main")
            model = dict(shelf)
            contents = contents_of(desk.folded())
            for _ in range(25):
                done[self.draw(chooser, desk, model)] += 1
                contents |= contents_of(desk.folded())
                self.assertEqual(desk.read(), len(contents))
                self.assertEqual({file: desk.text(file) for file in desk.files()}, model)
                self.made_anew(desk)
        self.assertGreater(min(done.values()), 5, done)

    def draw(self, chooser, desk, model):
        """Do an edit with the desk and, if it is not refused, with the model; return the error's class."""
        file = chooser.choice(["main", "main", "more", "x1", "new", "Bad"])
        after = dict(model)
        if chooser.random() < 0.12:
            call = self.prepare_drop(desk, after, file)
        else:
            old = model.get(file, "").split("\n") if model.get(file) else []
            first, count = chooser.randrange(-1, len(old) + 2), chooser.choice((0, 0, 1, 1, 2, -1))
            if chooser.random() < 0.7:
                first = chooser.randint(0, len(old))
                count = chooser.randint(0, min(2, len(old) - first))
            lines = chooser.choice(BLOCKS) if chooser.random() < 0.5 else [chooser.choice(POOL)]
            if chooser.random() < 0.2:
                first, count = 0, len(old)
            call = self.prepare_edit(desk, after, old, (file, first, count, lines))
        error = self.expected(after)
        if error is None:
            call()
            model.clear()
            model.update(after)
            return None
        before = state_of(desk)
        with self.assertRaises(error) as caught:
            call()
        self.assertIs(type(caught.exception), error)
        self.assertEqual(state_of(desk), before)
        return error

    def prepare_drop(self, desk, after, file):
        if file in after:
            del after[file]
        else:
            after["refused"] = None
        return lambda: desk.drop(file)

    def prepare_edit(self, desk, after, old, told):
        file, first, count, lines = told
        fine = first >= 0 and count >= 0 and first + count <= len(old) and file != "Bad"
        if fine and not any("\n" in line for line in lines):
            after[file] = "\n".join([line for k, line in enumerate(old) if k < first] + lines
                                    + [line for k, line in enumerate(old) if k >= first + count])
        else:
            after["refused"] = None
        return lambda: desk.edit(*copy.deepcopy(told))

    def expected(self, after):
        if "refused" in after:
            return NotAllowed
        try:
            fold_tokens(fold(after, "main", AB))
        except (BadShelf, BadToken, TooMany) as error:
            return type(error)
        return None

    def test_other_grammars(self):
        chooser = random.Random(972)
        for grammar, folded in some_cases(973, 80):
            texts = [token[1] for token, _ in folded]
            desk = Desk(grammar, AB, {"main": "\n".join(texts)}, "main")
            contents = contents_of(desk.folded())
            lines = texts
            for _ in range(6):
                k = chooser.randrange(len(lines) + 1)
                new = chooser.choice([[], [chooser.choice(texts)], ["#if a", chooser.choice(texts), "#end"]])
                count = chooser.randint(0, min(1, len(lines) - k))
                if any(line.startswith("#") for line in lines[k:k + count]) or len(lines) > 8:
                    continue
                desk.edit("main", k, count, new)
                lines = lines[:k] + new + lines[k + count:]
                contents |= contents_of(desk.folded())
                self.assertEqual(desk.read(), len(contents))
                self.made_anew(desk, grammar)

    def test_there_and_back(self):
        desk = Desk(SUMS, AB, SHELF, "main")
        before = state_of(desk)
        desk.edit("main", 4, 1, ["+ 5", "#if b", "+ w", "#end"])
        read = desk.read()
        self.assertGreater(read, before[6])
        desk.edit("main", 4, 4, ["+ 2"])
        self.assertEqual(state_of(desk), before[:6] + (read,))
        desk.edit("main", 4, 1, ["+ 5", "#if b", "+ w", "#end"])
        self.assertEqual(desk.read(), read)

    def test_twenty_four_tokens_are_quick(self):
        names = ("a", "b", "c", "d", "e")
        grammar = read_grammar(names, "start S\nrule S = S S S\nrule S = S S\nrule S = word\nbar 0 0 0 {a}")
        lines = [line for k in range(8) for line in (f"#if {names[k % 5]}", f"w{k} x y", "#end")]
        begin = time.perf_counter()
        desk = Desk(grammar, names, {"main": "\n".join(lines)}, "main")
        for k in range(1, 24, 3):
            desk.edit("main", k, 1, ["x y z"])
            desk.edit("main", k - 1, 1, ["#if a|c&d"])
        self.made_anew(desk, grammar, names)
        self.assertLess(time.perf_counter() - begin, 20)


class KeptTest(DeskCase):
    def test_what_was_handed_in_may_be_changed(self):
        shelf = dict(SHELF)
        desk = Desk(SUMS, AB, shelf, "main")
        before = state_of(desk)
        self.assertEqual(shelf, SHELF)
        shelf["main"] = "#bad"
        shelf["other"] = "1"
        del shelf["more"]
        self.assertEqual(state_of(desk), before)
        lines = ["1", "+ 1"]
        desk.edit("more", 0, 1, lines)
        self.assertEqual(lines, ["1", "+ 1"])
        before = state_of(desk)
        lines.append("#bad")
        lines[0] = "$"
        self.assertEqual(state_of(desk), before)
        self.made_anew(desk)

    def test_what_was_returned_may_be_changed(self):
        desk = Desk(SUMS, AB, SHELF, "main")
        before = copy.deepcopy(state_of(desk))
        desk.files().append("other")
        desk.folded().clear()
        desk.forest().clear()
        desk.alive().clear()
        desk.forest()["S", 0, 1] = ()
        desk.alive().pop(("S", 0, 1))
        self.assertEqual(state_of(desk), before)
        desk.edit("main", 0, 0, ["1 +"])
        self.made_anew(desk)

    def test_what_was_returned_stays(self):
        desk = Desk(SUMS, AB, SHELF, "main")
        found = state_of(desk)
        kept = copy.deepcopy(found)
        desk.edit("main", 0, 1, ["w"])
        desk.drop("free")
        self.assertEqual(found, kept)
        self.assertNotEqual(state_of(desk), kept)

    def test_two_desks_do_not_share(self):
        one, other = Desk(SUMS, AB, SHELF, "main"), Desk(SUMS, AB, SHELF, "main")
        before = state_of(other)
        one.edit("main", 0, 1, ["7"])
        self.assertEqual(state_of(other), before)


if __name__ == "__main__":
    unittest.main()
