"""Expressions: what can be read, and its bounds."""

import unittest

from tests.lines import is_grammar

# # is there in the first production; in the second one the places 0, 1 and 2.
FRAME = "S v len > w; p S #: { w = 0; ? EXPRESSION; } q S: S S { w = 0; 1.v = 0; 1.len = 0; 2.v = 0; 2.len = 0; OTHER }"


class Reading(unittest.TestCase):
    def reads(self, *texts):
        for text in texts:
            with self.subTest(text):
                self.assertEqual(is_grammar(FRAME.replace("EXPRESSION", text).replace("OTHER", "")), [0, 1, 2])

    def refuses(self, *texts):
        for text in texts:
            with self.subTest(text):
                self.assertEqual(is_grammar(FRAME.replace("EXPRESSION", text).replace("OTHER", "")), [-2])


class Expressions(Reading):
    def test_atoms(self):
        self.reads("1", "v", "w", "0.v", "00.v", "#", "(1)", "((v))", "[]", "[1]", "[1, v, #]", "[[], []]")
        self.refuses("", "()", "(1", "1)", "[1,]", "[,1]", "[1 2]", "[,]", "V", "0.V", "0.", ".v", "0.0", "0.#", "1 2",
                     "v v", "(1, 2)", "0.(v)", "0.if", "then", "else", "1 ; 2", "?1", "1:2", "1>2", "{1}", "1,2", "[1)")

    def test_signs_before(self):
        self.reads("-1", "!1", "- - 1", "-!-!v", "1 - -1", "1 * -v", "-(1)", "-[1]", "-len(v)", "1 + !#")
        self.refuses("-", "!", "1 !", "1 ! 2", "+1", "*1", "/1", "%1", "&1", "|1", "=1", "<1", "1 + + 1", "- if 1 then 2 else 3")

    def test_operators(self):
        for operator in "+-*/%&|=<":
            self.reads("1 " + operator + " 2", "v" + operator + "0.w")
            self.refuses("1 " + operator, operator)
        for operator in "+-*/%&|":
            self.reads("1 {0} 2 {0} 3 {0} 4".format(operator))
        self.reads("1 + 2 * 3 - 4 / 5 % 6", "1 | 2 & 3 = 4 + 5 * -6", "1 * 2 + 3 < 4 & 5 | 6")

    def test_comparisons_do_not_chain(self):
        for first in "=<":
            for second in "=<":
                self.refuses("1 {} 2 {} 3".format(first, second), "1 {} 2 + 3 {} 4".format(first, second))
                self.reads("1 {} 2 & 3 {} 4".format(first, second), "1 {} 2 | 3 {} 4".format(first, second),
                           "(1 {} 2) {} 3".format(first, second), "1 {} (2 {} 3)".format(first, second))
        self.refuses("1 = 2 & 3 = 4 = 5", "1 | 2 < 3 < 4", "1 = 2 * 3 < 4", "(1 = 2 = 3)", "[1 < 2 < 3]")
        self.reads("1 = 2 & 3 | 4 < 5", "1 = [2 = 3]", "1 < -(2 < 3)")

    def test_if(self):
        self.reads("if 1 then 2 else 3", "if if 1 then 2 else 3 then 4 else 5", "if 1 then if 2 then 3 else 4 else 5",
                   "if 1 then 2 else if 3 then 4 else 5", "(if 1 then 2 else 3) + 1", "[if 1 then 2 else 3]",
                   "if 1 then 2 else 3 | 4", "len(if 1 then 2 else 3)", "if 1 = 2 then 3 = 4 else 5 = 6")
        self.refuses("if 1 then 2", "if 1 else 2", "if then else", "if 1 then 2 else", "1 + if 1 then 2 else 3",
                     "if 1 2 else 3", "1 | if 1 then 2 else 3", "if (1 then 2 else 3)", "If 1 then 2 else 3",
                     "if 1 = 2 = 3 then 4 else 5")

    def test_calls(self):
        counts = {"len": 1, "at": 2, "cat": 2, "look": 3, "drop": 2, "has": 2, "max": 2, "min": 2}
        for name, count in counts.items():
            for given in range(5):
                text = name + "(" + ", ".join("v" * given) + ")"
                (self.reads if given == count else self.refuses)(text)
        self.refuses("v(1)", "w()", "sum(1, 2)", "Len(1)", "len(1,)", "len(,1)", "len(1", "len 1", "len[1]", "lens(1)")
        self.reads("len ( [ ] )", "at([1, 2], max(0, #))", "look(len(v), 2, if 1 then 2 else 3)")

    def test_an_attribute_called_len(self):
        self.reads("len", "0.len", "len(len)", "len + 1", "len((len))", "[len]", "(len)")
        self.refuses("0.len(v)", "0.len(1)", "at", "0.at")

    def test_occurrences(self):
        self.refuses("x", "0.x", "1.v", "2.v", "999999999999999999.v", "1.w")
        for text, answer in (("1.v", 2), ("2.w", 2), ("1.len", 2), ("002.len", 2), ("0.w", 2), ("3.v", 0), ("1.x", 0),
                             ("#", 0), ("1 + [2, #]", 0), ("if 1 then 2 else 3.v", 0), ("len(len(3.v))", 0)):
            frame = FRAME.replace("EXPRESSION", "1").replace("OTHER", "? " + text + ";")
            self.assertEqual(is_grammar(frame), [0, 1, 2] if answer else [-2], text)

    def test_equations_and_conditions_are_checked_alike(self):
        for text, answer in (("#", [-2]), ("x", [-2]), ("1.v", [-2]), ("v", [0, 1, 1]), ("u", [0, 1, 1])):
            self.assertEqual(is_grammar("S u > v; p S: { v = " + text + "; }"), answer)
            self.assertEqual(is_grammar("S u > v; p S: { v = 1; ? " + text + "; }"), answer)


class Bounds(Reading):
    def test_60_and_61_parts_of_each_kind(self):
        for text, parts in (("1", 1), ("#", 1), ("v", 1), ("0.v", 1), ("(((1)))", 1), ("-1", 2), ("!v", 2), ("--#", 3),
                            ("[]", 1), ("[1]", 2), ("[1, 2, 3]", 4), ("len(1)", 2), ("max(1, 2)", 3),
                            ("look(1, 2, 3)", 4), ("if 1 then 2 else 3", 4), ("1 + 2", 3), ("1 = 2", 3), ("1 & 2 | 3", 5),
                            ("1 * 2 < 3 - 4", 7)):
            # A list around it is a part too.
            self.reads("[" + text + ", 1" * (59 - parts) + "]")
            self.refuses("[" + text + ", 1" * (60 - parts) + "]")

    def test_60_and_61_parts_in_one_row(self):
        self.reads("-1" + "+1" * 29, "1" + "+1" * 28 + "+len(1)")
        self.refuses("1" + "+1" * 30, "--1" + "+1" * 29)

    def test_each_expression_has_parts_of_its_own(self):
        many = "-1" + "+1" * 29
        self.reads(many + "; ? " + many + "; ? " + many)

    def test_30_and_31_levels_of_each_kind(self):
        for before, behind in (("(", ")"), ("[", "]"), ("[1, ", "]"), ("-", ""), ("!", ""), ("len(", ")"),
                               ("if ", " then 1 else 1"), ("if 1 then ", " else 1"), ("if 1 then 1 else ", "")):
            # Brackets, which are no parts, make up the rest of the levels: an if has too many parts for 30 of them.
            for levels, told in ((30, self.reads), (31, self.refuses)):
                count = min(levels, 14)
                told("(" * (levels - count) + before * count + "#" + behind * count + ")" * (levels - count))
                told(before * count + "(" * (levels - count) + "#" + ")" * (levels - count) + behind * count)

    def test_30_and_31_levels_of_one_kind(self):
        for before, behind in (("(", ")"), ("[", "]"), ("-", ""), ("!", ""), ("len(", ")")):
            self.reads(before * 30 + "1" + behind * 30)
            self.refuses(before * 31 + "1" + behind * 31)

    def test_a_level_ends_with_what_it_belongs_to(self):
        deepest = "(" * 29 + "1" + ")" * 29
        for text in ("(1)", "[1]", "[]", "-1", "!1", "len(1)", "if 1 then 2 else 3", "if (1) then [2] else -3", "--1"):
            self.reads("[" + text + ", " + deepest + "]")
            self.refuses("[" + text + ", (" + deepest + ")]")
        for sign in "-!":
            self.reads(sign + "1 + (" + deepest + ")", sign + deepest, sign + "1 = " + sign + deepest)
            self.refuses(sign + "(" + deepest + ")", "1 * " + sign + "(" + deepest + ")")
        for text in ("if {} then 1 else 1", "if 1 then {} else 1", "if 1 then 1 else {}"):
            self.reads(text.format(deepest))
            self.refuses(text.format("(" + deepest + ")"))

    def test_each_expression_has_levels_of_its_own(self):
        deepest = "(" * 30 + "1" + ")" * 30
        self.reads(deepest + "; ? " + deepest)
        self.reads("-" * 30 + "1; ? " + "-" * 30 + "1")

    def test_brackets_that_never_end(self):
        for text in ("(" * 2500, "[" * 2500, "-" * 2500, "if " * 800, "len(" * 600):
            self.refuses(text)


if __name__ == "__main__":
    unittest.main()
