import itertools
import unittest

from oncefolded.errors import BadFormula
from oncefolded.formulas import configurations, is_switches, is_true, read_formula
from tests.helper import NAMES, all_configurations

A, B, C = ("switch", "a"), ("switch", "b"), ("switch", "c")
ABC = ("a", "b", "c")


class SwitchesTest(unittest.TestCase):
    def test_one_to_five_names_are_switches(self):
        for count in range(1, 6):
            self.assertIs(is_switches(NAMES[:count]), True)

    def test_names_have_one_to_six_small_letters(self):
        for names in (("a",), ("z",), ("abcdef",), ("zzzzzz",), ("a", "aa", "ab", "b")):
            self.assertIs(is_switches(names), True)

    def test_none_and_six_are_too_few_and_too_many(self):
        self.assertIs(is_switches(()), False)
        self.assertIs(is_switches(("a", "b", "c", "d", "e", "f")), False)

    def test_wrong_names(self):
        wrong = ("", "abcdefg", "A", "aB", "Ab", "a1", "1", "0", "_", "a_", "a b", " a", "a ",
                 "a\n", "\t", "!", "a-b", "\u00e9", "a\u00df", "\u0430")
        for name in wrong:
            self.assertIs(is_switches((name,)), False, repr(name))
            for pair in ((name, "zz"), ("a", name), ("a", name, "zz")):
                self.assertIs(is_switches(pair), False, repr(pair))

    def test_names_ascend_without_equal_ones(self):
        for names in (("b", "a"), ("a", "a"), ("a", "b", "b"), ("a", "c", "b"), ("ab", "a"),
                      ("b", "aa"), ("a", "b", "a")):
            self.assertIs(is_switches(names), False, repr(names))

    def test_other_values(self):
        for value in ("a", "ab", "", 0, 1, 12, -1, (1,), (0, 1), ("a", 1), (1, "a"), (("a",),),
                      ("a", ("b",)), (("a", "b"), "c"), ((),), ("a", ())):
            self.assertIs(is_switches(value), False, repr(value))


class ConfigurationsTest(unittest.TestCase):
    def test_small_counts(self):
        self.assertEqual(configurations(1), [(0,), (1,)])
        self.assertEqual(configurations(2), [(0, 0), (0, 1), (1, 0), (1, 1)])

    def test_all_of_them_ascending(self):
        for count in range(1, 6):
            found = configurations(count)
            self.assertIsInstance(found, list)
            self.assertEqual(len(found), 2 ** count)
            self.assertEqual(found, sorted(set(found)))
            self.assertEqual(found, all_configurations(count))
            for configuration in found:
                self.assertIs(type(configuration), tuple)
                self.assertTrue(all(type(bit) is int for bit in configuration))

    def test_each_call_returns_a_list_of_its_own(self):
        configurations(2).append("more")
        self.assertEqual(len(configurations(2)), 4)


class TruthTest(unittest.TestCase):
    def test_yes_and_no(self):
        for count in range(1, 6):
            for configuration in all_configurations(count):
                self.assertIs(is_true(NAMES[:count], ("yes",), configuration), True)
                self.assertIs(is_true(NAMES[:count], ("no",), configuration), False)

    def test_switch(self):
        for count in range(1, 6):
            for configuration in all_configurations(count):
                for i in range(count):
                    found = is_true(NAMES[:count], ("switch", NAMES[i]), configuration)
                    self.assertIs(found, configuration[i] == 1)

    def test_not_and_or(self):
        for a, b in all_configurations(2):
            names, bits = ("a", "b"), (a, b)
            self.assertIs(is_true(names, ("not", A), bits), a == 0)
            self.assertIs(is_true(names, ("not", B), bits), b == 0)
            self.assertIs(is_true(names, ("and", A, B), bits), a + b == 2)
            self.assertIs(is_true(names, ("or", A, B), bits), a + b > 0)

    def test_each_kind_inside_each_kind(self):
        leaves = [(A, lambda a, b, c: a), (B, lambda a, b, c: b), (C, lambda a, b, c: c),
                  (("yes",), lambda a, b, c: 1), (("no",), lambda a, b, c: 0)]
        inner = list(leaves)
        for (f, told), (g, other) in itertools.product(leaves, repeat=2):
            inner.append((("and", f, g), lambda a, b, c, t=told, o=other: t(a, b, c) and o(a, b, c)))
            inner.append((("or", f, g), lambda a, b, c, t=told, o=other: t(a, b, c) or o(a, b, c)))
        for f, told in leaves:
            inner.append((("not", f), lambda a, b, c, t=told: not t(a, b, c)))
        for (f, told), (g, other) in itertools.product(inner, repeat=2):
            for bits in all_configurations(3):
                first, second = bool(told(*bits)), bool(other(*bits))
                self.assertIs(is_true(ABC, ("and", f, ("not", g)), bits), first and not second)
                self.assertIs(is_true(ABC, ("not", ("or", f, g)), bits), not (first or second))

    def test_a_deep_formula(self):
        deep = A
        for _ in range(3001):
            deep = ("not", deep)
        self.assertIs(is_true(("a",), deep, (0,)), True)
        self.assertIs(is_true(("a",), deep, (1,)), False)
        chain = A
        for _ in range(3000):
            chain = ("or", ("no",), ("and", chain, ("yes",)))
        self.assertIs(is_true(("a",), chain, (0,)), False)
        self.assertIs(is_true(("a",), chain, (1,)), True)


class ReadTest(unittest.TestCase):
    def reads(self, text, formula):
        self.assertEqual(read_formula(ABC, text), formula, repr(text))

    def refuses(self, text, switches=ABC):
        with self.assertRaises(BadFormula, msg=repr(text)):
            read_formula(switches, text)

    def test_single_parts(self):
        self.reads("0", ("no",))
        self.reads("1", ("yes",))
        self.reads("a", A)
        self.reads("c", C)
        self.assertEqual(read_formula(("abcdef", "b"), "abcdef"), ("switch", "abcdef"))

    def test_a_name_is_as_long_as_its_letters(self):
        names = ("a", "aa", "ab", "b")
        self.assertEqual(read_formula(names, "ab"), ("switch", "ab"))
        self.assertEqual(read_formula(names, "aa&a"), ("and", ("switch", "aa"), A))
        self.refuses("abb", names)

    def test_not(self):
        self.reads("!a", ("not", A))
        self.reads("!!a", ("not", ("not", A)))
        self.reads("!!!0", ("not", ("not", ("not", ("no",)))))
        self.reads("!(a)", ("not", A))
        self.reads("!a & b", ("and", ("not", A), B))
        self.reads("!a | b", ("or", ("not", A), B))
        self.reads("!(a & b)", ("not", ("and", A, B)))
        self.reads("a & !b", ("and", A, ("not", B)))
        self.reads("!(!(a))", ("not", ("not", A)))

    def test_chains_are_grouped_from_the_left(self):
        self.reads("a & b & c", ("and", ("and", A, B), C))
        self.reads("a | b | c", ("or", ("or", A, B), C))
        self.reads("a & b & c & a", ("and", ("and", ("and", A, B), C), A))
        self.reads("a | b | c | a", ("or", ("or", ("or", A, B), C), A))
        self.reads("a & (b & c)", ("and", A, ("and", B, C)))
        self.reads("a | (b | c)", ("or", A, ("or", B, C)))

    def test_and_binds_closer_than_or(self):
        self.reads("a & b | c", ("or", ("and", A, B), C))
        self.reads("a | b & c", ("or", A, ("and", B, C)))
        self.reads("a & b | c & a", ("or", ("and", A, B), ("and", C, A)))
        self.reads("a | b & c | a", ("or", ("or", A, ("and", B, C)), A))
        self.reads("a & (b | c)", ("and", A, ("or", B, C)))
        self.reads("(a | b) & c", ("and", ("or", A, B), C))

    def test_parentheses_leave_no_trace(self):
        self.reads("(a)", A)
        self.reads("(((0)))", ("no",))
        self.reads("((a) | ((b)))", ("or", A, B))
        self.reads("(a & b) & c", ("and", ("and", A, B), C))
        self.reads("((a | b) & (b | c))", ("and", ("or", A, B), ("or", B, C)))
        self.reads("(" * 29 + "a" + ")" * 29, A)

    def test_spaces_everywhere(self):
        self.reads("  a", A)
        self.reads("a  ", A)
        self.reads(" a  &  b ", ("and", A, B))
        signs = ["!", "(", "a", "|", "!", "!", "0", "&", "(", "1", ")", ")", "|", "b"]
        formula = read_formula(ABC, "".join(signs))
        self.assertEqual(formula, ("or", ("not", ("or", A, ("and", ("not", ("not", ("no",))), ("yes",)))), B))
        self.reads(" ".join(signs), formula)
        self.reads("  " + "  ".join(signs) + "  ", formula)
        for at in range(len(signs) + 1):
            self.reads("".join(signs[:at]) + "   " + "".join(signs[at:]), formula)

    def test_sixty_and_sixty_one_characters(self):
        texts = (("a" + " " * 59, A), (" " * 59 + "a", A), ("a" + "&a" * 29 + " ", None),
                 ("!" * 59 + "a", None), ("(" * 29 + " a" + ")" * 29, A))
        for text, formula in texts:
            self.assertEqual(len(text), 60)
            found = read_formula(ABC, text)
            if formula is not None:
                self.assertEqual(found, formula)
            self.refuses(text + " ")
            self.refuses(" " + text)
        self.refuses("a&" * 30 + "a")
        self.refuses(" " * 60)
        self.refuses(" " * 61)
        self.refuses("(" * 30 + "a" + ")" * 30)
        self.refuses("a" + " " * 100000)

    def test_nothing(self):
        for text in ("", " ", "     "):
            self.refuses(text)

    def test_signs_left_out_put_in_or_exchanged(self):
        for text in ("a b", "a & ", "a |", "& a", "| a", "a & & b", "a && b", "a | | b", "a || b",
                     "a & | b", "a | & b", "!", "a !", "a ! b", "a!", "!& a", "a & !", "! | a", "&",
                     "|", "0 1", "01", "00", "a 0", "a0", "0a", "1a", "a1", "1 a", "a !b"):
            self.refuses(text)

    def test_wrong_parentheses(self):
        for text in ("(", ")", "()", "( )", "(a", "a)", "((a)", "(a))", ")a(", "a()", "()a", "(a)(b)",
                     "(a) b", "a (b)", "(a &) b", "(a & b", "a & b)", "a (& b)", "!()", "(!)", "(a | )",
                     "(" * 59, "(" * 60, "!(" * 30):
            self.refuses(text)

    def test_names_that_are_no_switches(self):
        for text in ("d", "a & d", "ab", "aa", "abcdefg", "yes", "no", "not a", "a and b", "switch"):
            self.refuses(text)
        self.refuses("b", ("a",))
        self.refuses("a", ("aa",))

    def test_a_space_inside_a_name(self):
        names = ("ab", "abc")
        self.refuses("a b", names)
        self.refuses("a bc", names)
        self.refuses("ab c", names)
        self.refuses("a b", ("a", "ab", "b"))

    def test_other_characters(self):
        for sign in ("\t", "\n", "\r", "A", "Z", "2", "9", "10", "_", "-", "+", "*", "/", "^", "~", "=",
                     "[", "]", "{", "}", ",", ";", ".", "'", '"', "#", "\\", "\x00", "\u00a0", "\u00e4",
                     "\u0430", "\u2003", "\u0661", "\u00b9"):
            for text in (sign, sign + "a", "a" + sign, "a & " + sign, sign + " & a", "a " + sign + " b",
                         "a" + sign + "& b", "(" + sign + "a)"):
                self.refuses(text)

    def test_one_sign_left_out_or_doubled(self):
        signs = ["(", "a", "|", "!", "b", ")", "&", "c"]
        self.reads(" ".join(signs), ("and", ("or", A, ("not", B)), C))
        for at, sign in enumerate(signs):
            if sign != "!":
                self.refuses(" ".join(signs[:at] + signs[at + 1:]))
                self.refuses(" ".join(signs[:at] + [sign] + signs[at:]))

    def test_what_is_read_is_true_where_its_words_say(self):
        texts = ("a | b & !c", "(a | b) & !c", "!(a & b) | c & 1", "!a & !b & !c | a & b & c", "0 | a & !!b")
        for text in texts:
            plain = text.replace("!", " not ").replace("&", " and ").replace("|", " or ").strip()
            formula = read_formula(ABC, text)
            for bits in all_configurations(3):
                wanted = bool(eval(plain, {}, dict(zip(ABC, bits))))
                self.assertIs(is_true(ABC, formula, bits), wanted, (text, bits))

    def test_every_short_text(self):
        reader = DefinitionReader(("a", "b"))
        for size in range(5):
            for signs in itertools.product("ab01!&|() ", repeat=size):
                text = "".join(signs)
                wanted = reader.formulas(text)
                self.assertLessEqual(len(wanted), 1, repr(text))
                if wanted:
                    self.assertEqual(read_formula(("a", "b"), text), wanted[0], repr(text))
                else:
                    self.refuses(text, ("a", "b"))


class DefinitionReader:
    """Tries all ways in which the grammar could give a text: slow and plain."""

    def __init__(self, switches):
        self.switches = switches
        self.known = {}

    def formulas(self, text):
        return self.either(text)

    def joined(self, name, sign, text, smaller):
        # The last part of a chain is split off: what stands before it is one.
        if (name, text) not in self.known:
            found = list(smaller(text))
            for at, letter in enumerate(text):
                if letter == sign:
                    firsts = self.joined(name, sign, text[:at], smaller)
                    found += [(name, f, g) for f in firsts for g in smaller(text[at + 1:])]
            self.known[name, text] = found
        return self.known[name, text]

    def either(self, text):
        return self.joined("or", "|", text, self.both)

    def both(self, text):
        return self.joined("and", "&", text, self.part)

    def part(self, text):
        text = text.strip(" ")
        if text in ("0", "1"):
            return [("yes",) if text == "1" else ("no",)]
        if text in self.switches:
            return [("switch", text)]
        if text.startswith("!"):
            return [("not", f) for f in self.part(text[1:])]
        if text.startswith("(") and text.endswith(")") and len(text) > 1:
            return self.either(text[1:-1])
        return []


if __name__ == "__main__":
    unittest.main()
