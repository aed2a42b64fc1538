import random
import re
import unittest

from oncefolded.diagrams import diagram_of
from oncefolded.errors import BadFormula, BadGrammar
from oncefolded.formulas import read_formula
from oncefolded.grammar_texts import read_grammar
from oncefolded.grammars import is_grammar
from oncefolded.tokens import MARKS
from tests.helper import all_configurations, has_ring, is_in, some_grammar

AB = ("a", "b")
A, B = (0, False, True), (1, False, True)
WORD, NUMBER = ("kind", "word"), ("kind", "number")
S, T = ("symbol", "S"), ("symbol", "T")

# Fine, with 5 rules in the lines 2 to 6 and 3 bars behind them.
LINES = ("start S", 'rule S = S "+" T {a}', "rule S = T", "rule T = word", 'rule T = "(" S ")" glued:2', "rule T = number {b}",
         "bar 0 2 3", "bar 0 0 1 {a|b}", "bar 3 1 0")


class TextCase(unittest.TestCase):
    def reads(self, text, *wanted, switches=AB):
        found = read_grammar(switches, text)
        self.assertEqual(found, wanted, text)
        self.assertIs(is_grammar(found, len(switches)), True, text)

    def reads_rule(self, line, *wanted):
        """The rule of a line, together with one line more for its symbols."""
        found = read_grammar(AB, "start T\nrule T = word\nrule S = word\n" + line)
        self.assertEqual(found[1][2:], (wanted,), line)
        self.assertIs(is_grammar(found, 2), True, line)

    def refuses(self, lines, line, switches=AB):
        text = lines if isinstance(lines, str) else "\n".join(lines)
        with self.assertRaises(BadGrammar, msg=text) as caught:
            read_grammar(switches, text)
        self.assertEqual(caught.exception.line, line, text)

    def refuses_line(self, line, at):
        """In the place of the line with this number, the line is refused; other lines are not."""
        self.refuses(LINES[:at - 1] + (line,) + LINES[at:], at)

    def refuses_rule(self, line):
        for at in range(2, 7):
            self.refuses_line(line, at)
        self.refuses(["start S", line], 2)

    def refuses_bar(self, line):
        for at in range(7, 10):
            self.refuses_line(line, at)


class FineTest(TextCase):
    def test_the_example_of_the_document(self):
        self.reads('start Sum\nrule Sum = Sum "+" Sum {a}\nrule Sum = number\nbar 0 2 0', "Sum", (
            ("Sum", (("symbol", "Sum"), ("text", "+"), ("symbol", "Sum")), A, ()),
            ("Sum", (NUMBER,), True, ())), ((0, 2, 0, True),), switches=("a",))

    def test_the_lines(self):
        self.reads("\n".join(LINES), "S", (
            ("S", (S, ("text", "+"), T), A, ()), ("S", (T,), True, ()), ("T", (WORD,), True, ()),
            ("T", (("text", "("), S, ("text", ")")), True, (("glued", 2),)), ("T", (NUMBER,), B, ())),
            ((0, 0, 1, diagram_of(AB, read_formula(AB, "a|b"))), (0, 2, 3, True), (3, 1, 0, True)))

    def test_one_rule(self):
        self.reads("start S\nrule S = word", "S", (("S", (WORD,), True, ()),), ())
        self.reads("start Sum\nrule Sum = number {a}", "Sum", (("Sum", (NUMBER,), A, ()),), (), switches=("a",))

    def test_parts(self):
        self.reads_rule("rule S = word", "S", (WORD,), True, ())
        self.reads_rule("rule S = number word number", "S", (NUMBER, WORD, NUMBER), True, ())
        self.reads_rule("rule S = S T", "S", (S, T), True, ())
        for text in list(MARKS) + ["if", "a", "Z9", "abcdefgh", "word", "S", "start", "same"]:
            self.reads_rule(f'rule S = "{text}"', "S", (("text", text),), True, ())
            self.reads_rule(f'rule S = T "{text}" word', "S", (T, ("text", text), WORD), True, ())

    def test_tails(self):
        self.reads_rule("rule S = S T {a}", "S", (S, T), A, ())
        self.reads_rule("rule S = S T {1}", "S", (S, T), True, ())
        self.reads_rule("rule S = S T {a|!a}", "S", (S, T), True, ())
        self.reads_rule("rule S = S T {!(!b)}", "S", (S, T), B, ())
        self.reads_rule("rule S = S T same:0:1", "S", (S, T), True, (("same", 0, 1),))
        self.reads_rule("rule S = S T {b} right:1:0 glued:0", "S", (S, T), B, (("right", 1, 0), ("glued", 0)))
        self.reads_rule("rule S = S T word {a&b} row:0:2 same:2:1 right:0:1 glued:2", "S", (S, T, WORD), (0, False, B),
                        (("row", 0, 2), ("same", 2, 1), ("right", 0, 1), ("glued", 2)))
        self.reads_rule('rule S = "{" "}" {b}', "S", (("text", "{"), ("text", "}")), B, ())
        self.reads_rule('rule S = ":" glued:0', "S", (("text", ":"),), True, (("glued", 0),))

    def test_a_formula_of_sixty_and_of_sixty_one_characters(self):
        for text, d in (("!" * 59 + "a", (0, True, False)), ("(" * 29 + "!b" + ")" * 29, (1, True, False))):
            self.assertEqual(len(text), 60)
            found = read_grammar(AB, f"start S\nrule S = word {{{text}}}\nrule S = S S\nbar 1 0 0 {{{text}}}")
            self.assertEqual((found[1][0][2], found[2][0][3]), (d, d))
            self.refuses_rule("rule S = T {!" + text + "}")
            self.refuses_bar("bar 0 2 3 {!" + text + "}")

    def test_bars_in_any_order(self):
        numbers = [(0, 0, 0), (0, 0, 1), (0, 0, 10), (0, 1, 2), (0, 2, 0), (1, 0, 3), (1, 1, 0), (10, 0, 1), (10, 1, 1), (2, 0, 11),
                   (9, 2, 9), (11, 1, 10)]
        rules = ("rule S = S S S",) * 12
        chooser = random.Random(1)
        for _ in range(20):
            chooser.shuffle(numbers)
            text = "\n".join(("start S", *rules, *[f"bar {r} {p} {b}" for r, p, b in numbers]))
            found = read_grammar(AB, text)
            self.assertEqual(found[2], tuple(sorted(bar + (True,) for bar in numbers)))
            self.assertIs(is_grammar(found, 2), True)

    def test_twelve_rules(self):
        for many in range(1, 13):
            self.reads("start S" + "\nrule S = word" * many, "S", (("S", (WORD,), True, ()),) * many, ())

    def test_rules_may_stand_ahead_of_those_of_their_symbols(self):
        self.reads("start T\nrule S = T T\nrule T = word", "T", (("S", (T, T), True, ()), ("T", (WORD,), True, ())), ())

    def test_what_is_written_is_read(self):
        chooser = random.Random(8)
        for _ in range(300):
            grammar = some_grammar(chooser, 2)
            lines = text_of(chooser, grammar)
            self.assertEqual(read_grammar(AB, "\n".join(lines)), grammar)


def formula_of_diagram(d):
    """A formula without spaces."""
    if not isinstance(d, tuple):
        return "1" if d else "0"
    i, low, high = d
    return f"({AB[i]}&{formula_of_diagram(high)}|!{AB[i]}&{formula_of_diagram(low)})"


def text_of(chooser, grammar):
    """The lines of a grammar, with the bars in some order."""
    start, rules, bars = grammar
    lines = ["start " + start]
    for left, right, d, demands in rules:
        words = [f'"{told}"' if kind == "text" else told for kind, told in right]
        words += ["{" + formula_of_diagram(d) + "}"] * (d is not True or chooser.random() < 0.2)
        words += [":".join(map(str, demand)) for demand in demands]
        lines.append(f"rule {left} = " + " ".join(words))
    bars = list(bars)
    chooser.shuffle(bars)
    for r, p, b, d in bars:
        lines.append(f"bar {r} {p} {b}" + (" {" + formula_of_diagram(d) + "}" if d is not True else ""))
    return lines


class FormFaultTest(TextCase):
    def test_the_first_line(self):
        for line in ("", "start", "start ", "start s", "start S T", "start  S", " start S", "start S ", "Start S", "begin S",
                     "start Abcdefg", "start S1", "start word", 'start "S"', "startS", "S", "start S {a}", "rule S = word", "bar 0 0 0",
                     "start\tS", "start S\r"):
            self.refuses_line(line, 1)
            self.refuses([line], 1)
            self.refuses([line, "nothing"], 1)

    def test_other_words(self):
        for line in ("", " ", "start S", "rules S = word", "Rule S = word", "=", "S = word", "word", "bars 0 2 3", "Bar 0 2 3", "#",
                     "0 2 3"):
            for at in range(2, 10):
                self.refuses_line(line, at)
            self.refuses(LINES + (line,), 10)

    def test_a_newline_at_the_end(self):
        self.refuses("\n".join(LINES) + "\n", 10)
        self.refuses("start S\nrule S = word\n", 3)
        self.refuses("start S\n\nrule S = word", 2)

    def test_rules_of_another_form(self):
        for line in ("rule", "rule S", "rule S =", "rule S = ", "rule s = word", "rule = word", "rule S word", "rule S := word",
                     "rule S == word", "rule S= word", "rule S =word", "rule S T = word", "rule Abcdefg = word", "rule S1 = word",
                     "rule word = S", "rule S = {a}", "rule S = glued:0", "rule S = same:0:1"):
            self.refuses_rule(line)

    def test_parts_of_another_form(self):
        for part in ("words", "Word9", "mark", "token", "s", "1", "Abcdefg", "S_", "+", "if", "''", "'+'", '"', '""', '"+', '+"', 'x+"', '"+x', '"if)', '(if"', '"++"',
                     '"1"', '"12"', '"1a"', '"a b"', '"abcdefghi"', '"_"', '"#"', '"a+"', '"""', '"\u00e9"', "(", "S,", "number,"):
            self.refuses_rule(f"rule S = {part}")
            self.refuses_rule(f"rule S = word {part}")
            self.refuses_rule(f"rule S = {part} word")

    def test_numbers_of_parts(self):
        self.refuses_rule("rule S = word word word word")
        self.refuses_rule('rule S = "a" T number "+" {a}')
        self.refuses_rule("rule S = T T T T T same:0:1")

    def test_formulas(self):
        for text in ("", "c", "a b", "a&", "(a", "a)", "A", "2", "ab", "{a}", "a}", "a&&b", "!"):
            self.refuses_rule("rule S = T {" + text + "}")
            self.refuses_rule("rule S = T {" + text + "} glued:0")
            self.refuses_bar("bar 0 2 3 {" + text + "}")
        for text in ("{a", "a}", "{", "}", "{a)", "{ab", "(a}", "{a{", "(a)", "a", "{a}b", "b{a}", "[a]"):
            self.refuses_rule("rule S = T " + text)
            self.refuses_bar("bar 0 2 3 " + text)

    def test_formulas_with_spaces(self):
        for text in ("{a & b}", "{ a}", "{a }", "{ }", "{a &b}"):
            self.refuses_rule("rule S = T " + text)
            self.refuses_bar("bar 0 2 3 " + text)

    def test_a_switch_that_is_none_here(self):
        self.refuses("start S\nrule S = word {b}", 2, switches=("a",))
        self.refuses("start S\nrule S = S S\nrule S = word\nbar 0 0 0 {b}", 4, switches=("a",))

    def test_formulas_that_are_true_nowhere(self):
        for text in ("0", "a&!a", "!(a|!a)", "!1", "a&b&!(a&b)"):
            self.refuses_rule("rule S = T {" + text + "}")
            self.refuses_bar("bar 0 2 3 {" + text + "}")

    def test_demands_of_another_form(self):
        for word in ("same", "same:", "same:0", "same:0:", "same::1", "same:0:1:2", "same:0:1:", ":0:1", "Same:0:1", "left:0:1",
                     "glued", "glued:", "glued::0", "glued:0:1", "glued:x", "right:a:b", "row:0,1", "row:0-1", "row:-1:0", "row:+0:1",
                     "same: 0:1", "same:0: 1", "row:0:1;", "0:1", "{same:0:1}", "same:\u0660:1"):
            self.refuses_rule("rule S = T word T " + word)
            self.refuses_rule("rule S = T word T glued:0 " + word)
            self.refuses_rule("rule S = T word T {a} " + word)

    def test_places_of_demands(self):
        for word in ("same", "right", "row"):
            for places in ("0:0", "1:1", "2:2", "0:3", "3:0", "3:4", "0:12", "99:98", "00:1", "0:01", "0:001", "0:100", "100:0", "0:1.0"):
                self.refuses_rule(f"rule S = T word T {word}:{places}")
            for right in ("T", "word"):
                self.refuses_rule(f"rule S = {right} {word}:0:1")
                self.refuses_rule(f"rule S = {right} {word}:0:0")
            self.refuses_rule(f"rule S = T word {word}:1:2")
        for place in ("1", "2", "10", "00", "100", "01"):
            self.refuses_rule("rule S = T glued:" + place)
        self.refuses_rule("rule S = T word T glued:3")

    def test_the_same_demand_twice_and_five_demands(self):
        self.refuses_rule("rule S = T T same:0:1 same:0:1")
        self.refuses_rule("rule S = T T glued:0 same:0:1 glued:0")
        self.refuses_rule("rule S = T T T glued:0 glued:1 glued:2 same:0:1 same:1:0")
        self.refuses_rule("rule S = T T T {a} glued:0 glued:1 glued:2 same:0:1 row:0:1")

    def test_words_that_are_out_of_order(self):
        for tail in ("{a} {b}", "{a} {a}", "glued:0 {a}", "{a} word", "glued:0 word", "{a} T", '{a} "+"', "= word", "glued:0 = word"):
            self.refuses_rule("rule S = T " + tail)

    def test_bars_of_another_form(self):
        for line in ("bar", "bar 0", "bar 0 2", "bar 0 2 3 4", "bar 0 2 {a}", "bar 0 2 3 {a} {b}", "bar 0 2 3 {a} glued:0",
                     "bar 0 2 3 glued:0", "bar 0 2 3 same:0:1", "bar {a} 0 2 3", "bar 0 2 x", "bar S 2 3", "bar 0 -2 3", "bar +0 2 3",
                     "bar 0:2:3", "bar 0,2,3", "bar 0 2 3 word", "bar 0 2 3.", "bar 0x0 2 3", "bar 0 2 \u0663", "bar 0 2 \u00b3"):
            self.refuses_bar(line)

    def test_numbers_with_leading_zeros_or_three_digits(self):
        for numbers in ("00 2 3", "0 02 3", "0 2 03", "000 2 3", "0 2 003", "100 2 3", "0 100 3", "0 2 100", "0 2 999", "0 2 0003"):
            self.refuses_bar("bar " + numbers)

    def test_spaces(self):
        for at, line in enumerate(LINES, start=1):
            words = line.split(" ")
            self.refuses_line(" " + line, at)
            self.refuses_line(line + " ", at)
            self.refuses_line("  " + line, at)
            self.refuses_line(line.replace(" ", "\t"), at)
            for k in range(1, len(words)):
                self.refuses_line(" ".join(words[:k]) + "  " + " ".join(words[k:]), at)

    def test_lines_where_they_may_not_stand(self):
        self.refuses(["start S", "bar 0 0 0", "rule S = word"], 2)
        self.refuses(["start S", "start S", "rule S = word"], 2)
        self.refuses(["start S", "rule S = word", "start S"], 3)
        self.refuses(["start S", "rule S = S S", "bar 0 0 0", "rule S = word"], 4)
        self.refuses(["start S", "rule S = S S", "bar 0 0 0", "start S"], 4)
        self.refuses(["rule S = word", "start S"], 1)
        self.refuses(["rule S = word", "rule S = word"], 1)

    def test_the_thirteenth_rule_and_bar(self):
        rules = ["rule S = S S S"] * 12
        bars = [f"bar {r} 0 0" for r in range(12)]
        self.assertEqual(len(read_grammar(AB, "\n".join(["start S", *rules, *bars]))[2]), 12)
        self.refuses(["start S", *rules, "rule S = word"], 14)
        self.refuses(["start S", *rules, "rule S = word", *bars], 14)
        self.refuses(["start S", *rules, *bars, "bar 0 1 0"], 26)
        self.refuses(["start S", *rules, *bars, "bar 0 1 0", "bar 0 1 1"], 26)
        self.refuses(["start S", *rules, *bars, "rule S = word"], 26)

    def test_too_few_lines(self):
        self.refuses("", 1)
        self.refuses("start S", 2)
        self.refuses("start Sum", 2)
        self.refuses("start S\n", 2)
        self.refuses("\n", 1)


class FitFaultTest(TextCase):
    def test_the_start(self):
        self.refuses(["start U", *LINES[1:]], 1)
        self.refuses(["start S", "rule T = word"], 1)

    def test_a_symbol_in_a_rule(self):
        for at in range(4, 7):
            self.refuses_line("rule T = U", at)
            self.refuses_line("rule T = word U word", at)
        self.refuses(["start S", "rule S = word", "rule S = T"], 3)
        self.refuses(["start S", "rule S = T word S", "rule S = word"], 2)
        self.refuses(["start S", "rule S = S S U {a} glued:0", "rule S = word"], 2)
        self.refuses(["start S", "rule S = word", "rule S = S", "rule S = T"], 4)

    def test_numbers_of_a_bar(self):
        for numbers in ("5 0 0", "12 0 0", "99 99 99", "0 3 0", "0 10 2", "0 2 5", "0 2 99", "0 1 0", "0 1 2", "0 2 0", "0 2 1", "0 0 2",
                        "1 0 0", "1 1 2", "2 0 0", "2 0 2", "4 0 4", "3 0 2", "3 1 3"):
            for at in range(7, 10):
                self.refuses_line("bar " + numbers, at)
                self.refuses_line("bar " + numbers + " {b}", at)

    def test_the_same_numbers_twice(self):
        self.refuses(LINES + ("bar 0 2 3",), 10)
        self.refuses(LINES + ("bar 3 1 0 {b}",), 10)
        self.refuses(LINES[:7] + LINES[6:], 8)
        self.refuses(LINES[:7] + ("bar 0 2 3 {a}",) + LINES[7:], 8)

    def test_the_first_of_two_lines_counts(self):
        self.refuses(["start U", "rule S = T", "bar 0 0 0"], 1)
        self.refuses(["start S", "rule S = U", "rule S = V", "rule S = word"], 2)
        self.refuses(["start S", "rule S = word", "rule S = U S", "bar 1 1 9"], 3)
        self.refuses(["start S", "rule S = S S", "rule S = word", "bar 0 0 1", "bar 0 2 0", "bar 0 0 1"], 5)
        self.refuses(["start S", "rule S = S S", "rule S = word", "bar 0 0 1", "bar 0 0 1", "bar 0 2 0"], 5)

    def test_the_first_of_two_faults_of_form_counts(self):
        self.refuses(["start S", "rule S =", "rule S", "rule S = word"], 2)
        self.refuses(["start s", "rule S ="], 1)
        self.refuses(["start S", "rule S = word", "bar 0", "rule s = word"], 3)

    def test_a_fault_of_form_counts_ahead_of_what_does_not_fit(self):
        self.refuses(["start U", "rule S = word", "rule S"], 3)
        self.refuses(["start S", "rule S = U", "rule S = word word word word"], 3)
        self.refuses(["start S", "rule S = U", "bar 0 0 0", "bar 0 0 00"], 4)
        self.refuses(["start S", "rule S = U", "bar 0 0 0", "bar 0 0 100"], 4)
        self.refuses(["start S", "rule S = U", "bar 99 99 99"], 2)
        self.refuses(["start S", "rule S = S S", "bar 9 9 9", "rule S = word"], 4)
        self.refuses(["start S", "rule S = S S", "bar 0 0 0", "bar 0 0 0", ""], 5)
        self.refuses(["start U", *["rule S = U"] * 13], 14)

    def test_rings(self):
        self.refuses(["start S", "rule S = word", "rule S = S"], 0)
        self.refuses(["start S", "rule S = S {a}", "rule S = word"], 0)
        self.refuses(["start S", "rule S = T {a}", "rule T = S {!a}", "rule S = word"], 0)
        self.refuses(["start S", "rule S = T", "rule T = U", "rule U = S", "rule S = word"], 0)
        self.refuses(["start S", "rule S = word", "rule T = U", "rule U = T"], 0)
        self.refuses(["start S", "rule S = T", "rule T = T", "rule T = word", "bar 0 0 1"], 0)
        self.reads("start S\nrule S = T\nrule T = S S\nrule T = word", "S", (
            ("S", (T,), True, ()), ("T", (S, S), True, ()), ("T", (WORD,), True, ())), ())

    def test_other_faults_count_ahead_of_rings(self):
        self.refuses(["start S", "rule S = S", "rule S"], 3)
        self.refuses(["start U", "rule S = S"], 1)
        self.refuses(["start S", "rule S = S", "rule S = U"], 3)
        self.refuses(["start S", "rule S = S", "bar 0 0 1"], 3)
        self.refuses(["start S", "rule S = S", "bar 0 0 0", "bar 0 0 0"], 4)


SYMBOL = "[A-Z][A-Za-z]{0,5}"
NUMBER_FORM = "(?:0|[1-9][0-9]?)"
PART = f'(?:word|number|{SYMBOL}|"(?:[A-Za-z][A-Za-z0-9]{{0,7}}|[-+*/(){{}};,=<>!:.?&|])")'
DEMAND = f"(?:(?:same|right|row):{NUMBER_FORM}:{NUMBER_FORM}|glued:{NUMBER_FORM})"
RULE = f"rule {SYMBOL} = ({PART}(?: {PART}){{0,2}})( {{[^ ]*}})?((?: {DEMAND}){{0,4}})"
BAR = f"bar ({NUMBER_FORM}) ({NUMBER_FORM}) ({NUMBER_FORM})( {{[^ ]*}})?"


def fault_by_definition(text):
    """The line that BadGrammar tells, by patterns, or None."""
    lines = text.split("\n")
    for line, words in enumerate(lines, start=1):
        if not has_form(lines, line, words):
            return line
    if len(lines) < 2:
        return len(lines) + 1
    rules = [line for line in lines if line.startswith("rule")]
    lefts = [line.split()[1] for line in rules]
    parts = [[word for word in re.fullmatch(RULE, line)[1].split()] for line in rules]
    bars = []
    for line, words in enumerate(lines, start=1):
        if words.startswith("bar"):
            numbers = tuple(map(int, words.split()[1:4]))
            r, p, b = numbers
            if max(r, b) >= len(rules) or p >= len(parts[r]) or parts[r][p] != lefts[b] or numbers in bars:
                return line
            bars.append(numbers)
        elif not all(word in lefts for word in (parts[line - 2] if line > 1 else [words.split()[1]])
                     if re.fullmatch(SYMBOL, word)):
            return line
    lone = [(left, (("symbol", row[0]),)) for left, row in zip(lefts, parts)
            if len(row) == 1 and re.fullmatch(SYMBOL, row[0])]
    return 0 if has_ring(lone) else None


def has_form(lines, line, words):
    if line == 1:
        return re.fullmatch("start " + SYMBOL, words) is not None
    ahead = [other.split(" ")[0] for other in lines[1:line - 1]]
    rule, bar = re.fullmatch(RULE, words), re.fullmatch(BAR, words)
    if rule and "bar" not in ahead and ahead.count("rule") < 12:
        many = len(rule[1].split())
        demands = rule[3].split()
        places = [demand.split(":")[1:] for demand in demands]
        return (is_true_somewhere(rule[2]) and len(set(demands)) == len(demands)
                and all(len(set(row)) == len(row) and all(int(p) < many for p in row) for row in places))
    return bool(bar) and "rule" in ahead and ahead.count("bar") < 12 and is_true_somewhere(bar[4])


def is_true_somewhere(word):
    try:
        d = diagram_of(AB, read_formula(AB, word[2:-1])) if word else True
    except BadFormula:
        return False
    return any(is_in(d, config) for config in all_configurations(2))


class ManyTextsTest(TextCase):
    def test_spoilt_texts(self):
        chooser = random.Random(3)
        words = ["word", "number", '"+"', "S", "Ab", "U", "rule", "bar", "start", "=", "0", "1", "2", "7", "00", "100", "{a}", "{0}", "{a&b}",
                 "{c}", "{", "same:0:1", "right:1:0", "row:0:2", "glued:0", "glued:1", "glued:00", "", "x", '"if"', '"1"']
        found = {}
        for _ in range(6000):
            lines = text_of(chooser, some_grammar(chooser, 2))
            for _ in range(chooser.choice((1, 1, 1, 2, 3))):
                self.spoil(chooser, lines, words)
            text = "\n".join(lines)
            fault = fault_by_definition(text)
            found[fault] = found.get(fault, 0) + 1
            if fault is None:
                self.assertIs(is_grammar(read_grammar(AB, text), 2), True, text)
            else:
                self.refuses(text, fault)
        self.assertTrue(all(found.get(fault, 0) > 20 for fault in (None, 0, 1, 2, 3, 4, 5, 6, 7)), found)

    def spoil(self, chooser, lines, words):
        at = chooser.randrange(len(lines))
        row = lines[at].split(" ")
        k = chooser.randrange(len(row))
        kind = chooser.randrange(7)
        if kind == 0:
            row[k] = chooser.choice(words)
        elif kind == 1:
            row.insert(k + 1, chooser.choice(words))
        elif kind == 2:
            del row[k]
        elif kind == 3:
            row.append(chooser.choice(words))
        elif kind == 4:
            other = chooser.randrange(len(lines))
            lines[at], lines[other] = lines[other], lines[at]
            return
        elif kind == 5:
            lines.insert(at + 1, chooser.choice([lines[at], "rule S = Ab", "rule Ab = S", "rule C = C", "bar 0 0 0", "bar 0 1 1"]))
            return
        else:
            row[-1] = chooser.choice(words[:18])
        lines[at] = " ".join(row)


class UnchangedTest(TextCase):
    def test_nothing_is_kept(self):
        text = "\n".join(LINES)
        first = read_grammar(AB, text)
        self.assertEqual(first, read_grammar(AB, text))
        self.assertIsInstance(hash(first), int)


if __name__ == "__main__":
    unittest.main()
