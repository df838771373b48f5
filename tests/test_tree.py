"""Promises 2 and 7: the calls tree and form."""

import unittest

from tests.lines import EXAMPLE, PLAIN, ask, chain, form, grammar, last, made, number, replace, tree, wide


def is_tree(text, rules=PLAIN):
    return last(grammar(rules), tree(text))


class Tree(unittest.TestCase):
    def refuses(self, *texts):
        for text in texts:
            self.assertEqual(is_tree(text), [-4], text)

    def test_the_example(self):
        found = ask(grammar(EXAMPLE), tree("top(add(lit 3, lit -4))"), form(0), form(1), form(2))
        self.assertEqual(found[1:], [[0, 4]] + ["top(add(lit 3, lit -4))"] * 3)

    def test_the_root_may_be_of_any_symbol(self):
        self.assertEqual(is_tree("lit 3", EXAMPLE), [0, 1])
        self.assertEqual(is_tree("add(lit 3, lit 4)", EXAMPLE), [0, 3])
        self.assertEqual(is_tree("top(lit 3)", EXAMPLE), [0, 2])

    def test_what_cannot_be_read(self):
        self.refuses("", " ", "l l", "l,l", "l()", "u(", "u(l", "u)", "u(l))", "u(l,)", "u(,l)", "p(l l)", "(l)", "u l", "u((l))",
                     "L", "if", "u(if)", "n -", "n --1", "n +1", "n 1 2", "n 1.", "n(1)", "1", "-1", "n - l", "l;", "u[l]",
                     "u{l}", "l#", "n #", "n 1()", "u(l)(l)", "u(l), l", "$", "u(l", "u(l]", "n 1a", "abcdefghijklm")

    def test_names_of_productions(self):
        self.refuses("x", "u(x)", "L", "ll", "t(l, l, x)", "S", "E", "topl")

    def test_a_node_holds_a_number_just_if_its_production_says_so(self):
        self.assertEqual(is_tree("n 1"), [0, 1])
        self.refuses("n", "l 1", "u(n)", "u 1(l)", "u -1(l)", "p(l 0, l)", "l 0", "l -0", "u 0(l)")
        self.assertEqual(is_tree("m 3(m -4(k))", "S > ; m S #: S { } k S: { }"), [0, 3])
        self.assertEqual(is_tree("m(k)", "S > ; m S #: S { } k S: { }"), [-4])

    def test_the_count_of_children(self):
        self.assertEqual(is_tree("t(l, l, l)"), [0, 4])
        self.refuses("u", "p", "p(l)", "t", "t(l)", "t(l, l)", "t(l, l, l, l)", "l(l)", "u(l, l)", "n 1(l)", "p(l, l, l)")

    def test_the_symbols_of_children(self):
        self.assertEqual(is_tree("two(l, g 1)"), [0, 3])
        self.assertEqual(is_tree("two(of(from(l)), f(f(g 1)))"), [0, 7])
        self.refuses("two(g 1, l)", "two(l, l)", "two(g 1, g 1)", "top(top(l))", "u(top(l))", "u(g 1)", "of(l)", "f(l)",
                     "top(g 1)", "t(l, g 1, l)", "t(l, l, g 1)")

    def test_60_and_61_nodes(self):
        for count in (1, 2, 3, 4, 59, 60):
            self.assertEqual(is_tree(wide(count)), [0, count])
        self.refuses(wide(61), wide(62), wide(200))

    def test_24_and_25_levels(self):
        for count in (1, 2, 23, 24):
            self.assertEqual(is_tree(chain(count)), [0, count])
        self.refuses(chain(25), chain(26), chain(60), chain(61), chain(700))
        self.assertEqual(is_tree("p(l, " + chain(23) + ")"), [0, 25])
        self.assertEqual(is_tree("p(" + chain(23) + ", l)"), [0, 25])
        self.refuses("p(l, " + chain(24) + ")", "p(" + chain(24) + ", l)", "u(" * 1400, "l)" * 1400)

    def test_60_nodes_on_24_levels(self):
        text = "l"
        for k in range(23):
            text = ("p(l," if k < 12 else "t(l,l,") + text + ")"
        self.assertEqual(text.count("l"), 12 + 22 + 1)
        self.assertEqual(is_tree(text), [0, 58])
        self.assertEqual(is_tree(text.replace("p(", "t(l,", 1)), [0, 59])
        self.assertEqual(is_tree(text.replace("p(", "t(l,", 2)), [0, 60])
        self.refuses(text.replace("p(", "t(l,", 3))

    def test_texts_of_3000_and_3001_bytes(self):
        for text, answer in (("u(l)", [0, 2]), ("", [-4]), ("x", [-4]), (chain(25), [-4])):
            self.assertEqual(is_tree(text.ljust(3000)), answer)
            self.assertEqual(is_tree(text.ljust(3001)), [-1])
            self.assertEqual(is_tree(text.rjust(3000, "\n")), answer)
            self.assertEqual(is_tree(text.rjust(4000, "\n")), [-1])

    def test_the_order_of_refusals(self):
        self.assertEqual(last(tree("x" * 3001)), [-3])
        self.assertEqual(last(tree("l")), [-3])
        self.assertEqual(last(grammar("S"), tree("l" * 4000)), [-3])
        self.assertEqual(is_tree("x" * 3001), [-1])
        self.assertEqual(is_tree("$"), [-4])

    def test_a_tree_takes_the_place_of_all_three(self):
        self.assertEqual(made("u(n 1)", number(0, 1, 5), number(1, 1, 6), tree("p(n 2, n 3)"), form(0), form(1), form(2))[2:],
                         [[0, 3]] + ["p(n 2, n 3)"] * 3)

    def test_a_tree_gives_new_numbers_anew(self):
        self.assertEqual(made("u(n 1)", replace(0, 1, "p(l, l)"), replace(1, 1, "l"), tree("u(l)"), replace(0, 1, "l"),
                              replace(1, 0, "l"), replace(0, 1000, "l")),
                         [[0, 1000], [0, 2000], [0, 2], [0, 1000], [0, 2000], [0, 1001]])

    def test_a_refused_tree_changes_nothing(self):
        self.assertEqual(made("n 1", replace(0, 0, "n 2"), tree("x"), form(0), form(2), tree(" " * 3001), form(0), form(1),
                              replace(0, 1000, "l")),
                         [[0, 1000], [-4], "n 2", "n 1", [-1], "n 2", "n 1", [0, 1001]])


class Form(unittest.TestCase):
    def test_forms(self):
        for text, expected in (("l", "l"), ("n 0", "n 0"), ("n -0", "n 0"), ("n 00012", "n 12"), ("n -000", "n 0"),
                               ("n-7", "n -7"), ("n\n-\n0070", "n -70"), (" u ( l ) ", "u(l)"), ("p(l,l)", "p(l, l)"),
                               ("t(n 1,u(n -2),p(l,n 3))", "t(n 1, u(n -2), p(l, n 3))"), ("two(l,g 9)", "two(l, g 9)"),
                               ("n 999999999999999999", "n 999999999999999999"),
                               ("n -999999999999999999", "n -999999999999999999")):
            self.assertEqual(made(text, form(0), form(1), form(2)), [expected] * 3)

    def test_a_number_with_children_behind_it(self):
        rules = "S > ; m S #: S S { } k S: { }"
        self.assertEqual(made("m -3(k,m 4(k,k))", form(2), rules=rules), ["m -3(k, m 4(k, k))"])

    def test_a_form_is_a_tree_of_the_same_form(self):
        for text in (wide(60), chain(24), "t(n -1, n 0, of(g 3))"):
            first = made(text, form(2))[0]
            self.assertEqual(made(first, form(2)), [first])

    def test_each_side_has_a_form_of_its_own(self):
        self.assertEqual(made("n 1", number(0, 0, 2), number(1, 0, -3), form(0), form(1), form(2)),
                         [[0], [0], "n 2", "n -3", "n 1"])

    def test_refusals(self):
        self.assertEqual(made("n 1", form(3), form(-1), form(10 ** 18), form(-10 ** 18)), [[-13]] * 4)
        self.assertEqual(ask(form(0), form(3), grammar(PLAIN), form(2), form(-1)), [[-5], [-5], [0, 3, 11], [-5], [-5]])


if __name__ == "__main__":
    unittest.main()
