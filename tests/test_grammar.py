"""Promise 1: the call grammar."""

import unittest

from tests.lines import EXAMPLE, PLAIN, ask, form, grammar, is_grammar, last, swap, tree


def symbols(count):
    """So many symbols, each with a tree."""
    return "".join("S{0} > ; p{0} S{0}: {{ }}\n".format(k) for k in range(count))


class Grammar(unittest.TestCase):
    def fits(self, text, *counts):
        self.assertEqual(is_grammar(text), [0] + list(counts), text)

    def refuses(self, *texts):
        for text in texts:
            self.assertEqual(is_grammar(text), [-2], text)

    def test_the_example(self):
        self.fits(EXAMPLE, 2, 3)
        self.fits(PLAIN, 3, 11)

    def test_the_order_of_declarations_is_free(self):
        self.fits("p S: T { } q T: { } T > ; S > ;", 2, 2)
        self.fits("q T: { v = 2; } S > ; p S: T { ? 1.v; } T > v;", 2, 2)

    def test_what_cannot_be_read(self):
        self.refuses(";", "S", "S >", "S ;", "S v ;", "S > v", "> ;", "S > > ; p S: { }", "S > , ; p S: { }")
        good = "S > ; p S: { }"
        self.fits(good, 1, 1)
        self.refuses(*[good + " " + more for more in ("S", "p", "p S", "p S:", "p S: {", "q S { }", "q : { }", "q S: }",
                                                      "q S: { } ;", "q S: { } }", "q S: { ; }", "q S ##: { }",
                                                      "# q S: { }", "q S: # { }", "q S: s { }", "q #S: { }", "7", ":",
                                                      "if S: { }", "q S: if { }", "q S: 1 { }", "q q S: { }")])

    def test_rules_that_cannot_be_read(self):
        frame = "S u > v; p S: {{ v = 1; {} }}"
        self.fits(frame.format("? 1;"), 1, 1)
        self.refuses(*[frame.format(rule) for rule in ("? 1", "?;", "? ? 1;", "1;", "u;", "= 1;", "? v = ;", "?? 1;", "0 = 1;",
                                                       "0. = 1;", "0.V = 1;", ".v = 1;", "0 v = 1;", "v. = 1;", "V = 1;",
                                                       "? 1; ;", "then = 1;", "0.0.v = 1;", "# = 1;")])

    def test_texts_of_3000_and_3001_bytes(self):
        for good in (EXAMPLE, PLAIN):
            self.assertEqual(is_grammar(good.ljust(3000))[0], 0)
            self.assertEqual(is_grammar(good.ljust(3001)), [-1])
        self.assertEqual(is_grammar(" " * 3000), [-2])
        self.assertEqual(is_grammar(" " * 3001), [-1])
        self.assertEqual(is_grammar([0] * 3000), [-2])
        self.assertEqual(is_grammar([0] * 3001), [-1])
        self.assertEqual(is_grammar([255] * 4000), [-1])

    def test_0_to_13_symbols(self):
        for count in range(1, 13):
            self.fits(symbols(count), count, count)
        self.refuses("", "\n", "p S: { }", symbols(13))

    def test_symbols_have_different_names(self):
        self.refuses("S > ; S > ; p S: { }", "S > ; T > ; S > ; p S: { } q T: { }")
        self.fits("S > ; Ss > ; p S: { } q Ss: { }", 2, 2)

    def test_4_and_5_attributes(self):
        for declared in ("a b c d >", "> a b c d", "a b > c d", "a b c > d"):
            handed_up = declared.partition(">")[2].split()
            rules = " ".join(name + " = 1;" for name in handed_up)
            self.fits("S " + declared + "; p S: { " + rules + " }", 1, 1)
            self.refuses("S e " + declared + "; p S: { " + rules + " }",
                         "S " + declared + " e; p S: { e = 1; " + rules + " }")

    def test_attributes_of_a_symbol_have_different_names(self):
        self.refuses("S a a > ; p S: { }", "S > a a; p S: { a = 1; }", "S a > a; p S: { a = 1; }",
                     "S > a a; p S: { a = 1; a = 1; }", "S a b > b; p S: { b = 1; }")
        self.fits("S a > b; T a > b; p S: { b = 1; } q T: { b = 2; }", 2, 2)

    def test_24_and_25_productions(self):
        for count in (1, 23, 24):
            self.fits("S > ;" + "".join(" p{} S: {{ }}".format(k) for k in range(count)), 1, count)
        self.refuses("S > ;" + "".join(" p{} S: {{ }}".format(k) for k in range(25)))

    def test_productions_have_different_names(self):
        self.refuses("S > ; p S: { } p S: { }", "S > ; T > ; p S: { } p T: { }", "S > ; p S: { } p S#: S { }")

    def test_a_production_may_be_called_like_an_attribute_or_a_call(self):
        self.fits("S > p; p S: { p = 1; } len S: { p = 2; }", 1, 2)

    def test_3_and_4_children(self):
        for count in range(4):
            self.fits("S > ; p S: { } q S:" + " S" * count + " { }", 1, 2)
        self.refuses("S > ; p S: { } q S: S S S S { }")

    def test_24_and_25_rules(self):
        self.fits("S > ; p S: { " + "? 1; " * 24 + "}", 1, 1)
        self.refuses("S > ; p S: { " + "? 1; " * 25 + "}")
        self.fits("S > a b; p S: { a = 1; " + "? 1; " * 22 + " b = 2; }", 1, 1)
        self.refuses("S > a b; p S: { a = 1; " + "? 1; " * 23 + " b = 2; }")
        self.fits("S > ; p S: { " + "? 1; " * 24 + "} q S: { " + "? 1; " * 24 + "}", 1, 2)

    def test_left_sides_and_children_are_declared(self):
        self.refuses("S > ; p S: { } q T: { }", "S > ; p S: { } q S: T { }", "S > ; p S: { } q S: S S T { }")

    def test_each_symbol_has_a_tree(self):
        self.refuses("S > ;", "S > ; p S: S { }", "S > ; T > ; p S: { }", "S > ; T > ; p S: { } q T: T { }",
                     "S > ; T > ; p S: T { } q T: S { }", "S > ; T > ; p S: { } q T: S T { }",
                     "S > ; T > ; p S: { } q S: T { }")
        self.fits("S > ; T > ; p S: T { } q T: S { } r T: { }", 2, 3)
        self.fits("S > ; T > ; U > ; p S: T U T { } q T: U { } r U #: { }", 3, 3)
        self.fits("S > ; p S: S { } q S: { }", 1, 2)

    def test_a_long_way_to_a_tree(self):
        row = "".join("S{0} > ; p{0} S{0}: S{1} S{1} S{1} {{ }}\n".format(k, k + 1) for k in range(11))
        self.fits(row + "S11 > ; p11 S11: { }", 12, 12)
        self.refuses(row + "S11 > ; p11 S11: S0 { }")

    def test_what_is_to_be_defined(self):
        frame = "S a b > c d; T e > f; p S: {{ c = 1; d = 1; }} q T: {{ f = 1; }} r S: T S T {{ {} }}"
        rules = ["c = 1;", "d = 2;", "1.e = 3;", "2.a = 4;", "2.b = 5;", "3.e = 6;"]
        self.fits(frame.format(" ".join(rules)), 2, 3)
        self.fits(frame.format(" ".join(reversed(rules))), 2, 3)
        for k, rule in enumerate(rules):
            self.refuses(frame.format(" ".join(rules[:k] + rules[k + 1:])))
            self.refuses(frame.format(" ".join(rules + [rule])))
            self.refuses(frame.format(" ".join(rules[:k] + ["? " + rule.replace(";", "") + ";"] + rules[k + 1:])))
        for other in ("a = 1;", "0.b = 1;", "1.f = 1;", "2.c = 1;", "3.f = 1;", "4.e = 1;", "x = 1;", "1.x = 1;",
                      "e = 1;", "1.a = 1;", "999999999999999999.e = 1;"):
            self.refuses(frame.format(" ".join(rules + [other])))

    def test_a_target_at_the_place_0_with_and_without_its_number(self):
        self.fits("S > v; p S: { 0.v = 1; }", 1, 1)
        self.fits("S > v; p S: { 000.v = 1; }", 1, 1)
        self.refuses("S > v; p S: { 0.v = 1; v = 1; }")

    def test_places_in_expressions(self):
        frame = "S > v; T > w; p S: {{ v = 1; }} q T: {{ w = 1; }} r S: T S {{ v = {}; }}"
        for text in ("v", "0.v", "1.w", "2.v"):
            self.fits(frame.format(text), 2, 3)
        self.refuses(*[frame.format(text) for text in ("w", "0.w", "1.v", "2.w", "3.v", "3.w")])
        frame = frame.replace("r S: T S", "r S: S T")
        for text in ("v", "0.v", "1.v", "2.w"):
            self.fits(frame.format(text), 2, 3)
        self.refuses(*[frame.format(text) for text in ("w", "0.w", "1.w", "2.v", "3.v", "3.w")])

    def test_the_number_only_where_nodes_hold_one(self):
        self.fits("S > v; p S #: { v = #; ? # < 1; }", 1, 1)
        self.refuses("S > v; p S: { v = #; }", "S > ; p S: { ? #; }", "S > ; p S #: { ? #; } q S: S { ? -[#]; }")

    def test_a_grammar_does_away_with_the_trees(self):
        self.assertEqual(ask(grammar(EXAMPLE), tree("lit 1"), form(0), grammar(PLAIN), form(0), swap(5, 5, 5), tree("lit 1"),
                             tree("n 1"), form(0))[2:], ["lit 1", [0, 3, 11], [-5], [-5], [-4], [0, 1], "n 1"])

    def test_a_refused_grammar_changes_nothing(self):
        found = ask(grammar(EXAMPLE), tree("lit 1"), grammar("S > ;"), form(0), grammar(PLAIN.ljust(3001)), form(1),
                    tree("lit 2"), form(2))
        self.assertEqual(found[2:], [[-2], "lit 1", [-1], "lit 1", [0, 1], "lit 2"])
        self.assertEqual(last(grammar("S"), tree("p")), [-3])


if __name__ == "__main__":
    unittest.main()
