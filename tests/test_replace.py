"""Promise 3: the call replace."""

import unittest

from tests.lines import EXAMPLE, PLAIN, ask, chain, form, grammar, last, made, number, replace, tree, wide


class Replace(unittest.TestCase):
    def test_a_tree_stands_in_the_nodes_stead(self):
        base = "p(u(n 1), n 2)"
        for node, expected in ((0, "n 9"), (1, "p(n 9, n 2)"), (2, "p(u(n 9), n 2)"), (3, "p(u(n 1), n 9)")):
            for side in (0, 1):
                self.assertEqual(made(base, replace(side, node, "n 9"), form(side), form(1 - side), form(2)),
                                 [[0, 1000 + 1000 * side], expected, "p(u(n 1), n 2)", "p(u(n 1), n 2)"])

    def test_the_documents_example(self):
        found = made("add(lit 1, lit 2)", number(0, 1, 5), replace(1, 2, "add(lit 8, lit 9)"), form(0), form(1), form(2),
                     number(1, 2002, 4), form(1), rules=EXAMPLE)
        self.assertEqual(found, [[0], [0, 2000], "add(lit 5, lit 2)", "add(lit 1, add(lit 8, lit 9))", "add(lit 1, lit 2)",
                                 [0], "add(lit 1, add(lit 8, lit 4))"])

    def test_the_new_nodes_are_numbered_in_their_order(self):
        text = "p(u(n 1), p(n 2, n 3))"
        expected = ["p(u(n 7), p(n 2, n 3))", "p(u(n 1), p(n 7, n 3))", "p(u(n 1), p(n 2, n 7))"]
        for side, first in ((0, 1000), (1, 2000)):
            for node, changed in zip((2, 4, 5), expected):
                self.assertEqual(made("u(l)", replace(side, 1, text), number(side, first + node, 7), form(side)),
                                 [[0, first], [0], "u(" + changed + ")"])
            self.assertEqual(made("u(l)", replace(side, 1, text), number(side, first + 6, 7)), [[0, first], [-6]])
            self.assertEqual(made("u(l)", replace(side, 1, text), number(side, first + 3, 7)), [[0, first], [-11]])

    def test_numbers_go_on(self):
        self.assertEqual(made("p(l, l)", replace(0, 1, "u(u(l))"), replace(0, 2, "l"), replace(1, 2, "l"), replace(0, 1001, "l"),
                              replace(1, 2000, "u(l)"), replace(1, 2002, "l"), form(0), form(1)),
                         [[0, 1000], [0, 1003], [0, 2000], [0, 1004], [0, 2001], [0, 2003], "p(u(l), l)", "p(l, u(l))"])

    def test_nodes_that_are_gone_are_no_nodes(self):
        self.assertEqual(made("p(u(n 1), l)", replace(0, 1, "l"), replace(0, 1, "l"), replace(0, 2, "l"), replace(1, 2, "l"),
                              replace(0, 1000, "l"), replace(0, 1000, "l"), form(0)),
                         [[0, 1000], [-6], [-6], [0, 2000], [0, 1001], [-6], "p(l, l)"])

    def test_what_may_stand_there(self):
        base = "two(u(l), f(g 1))"
        self.assertEqual(made(base, replace(0, 1, "g 2"), replace(0, 2, "top(l)"), replace(0, 3, "l"), replace(0, 4, "of(g 1)"),
                              form(0)), [[-8]] * 4 + ["two(u(l), f(g 1))"])
        self.assertEqual(made(base, replace(0, 1, "of(g 2)"), replace(0, 4, "from(l)"), form(0)),
                         [[0, 1000], [0, 1002], "two(of(g 2), f(from(l)))"])

    def test_any_symbol_may_stand_at_the_root(self):
        for text in ("l", "g 1", "top(l)", "two(l, g 2)"):
            self.assertEqual(made("u(l)", replace(1, 0, text), form(1)), [[0, 2000], text])
            self.assertEqual(made("u(l)", replace(1, 0, text), replace(1, 2000, "f(g 2)"), form(1))[2], "f(g 2)")

    def test_60_and_61_nodes(self):
        self.assertEqual(made("p(l, l)", replace(0, 1, wide(58)), replace(1, 1, wide(59)), replace(1, 1, wide(58)),
                              replace(1, 2, "u(l)"), replace(1, 2, "l")),
                         [[0, 1000], [-9], [0, 2000], [-9], [0, 2058]])
        self.assertEqual(made(wide(60), replace(0, 0, wide(60))), [[0, 1000]])
        self.assertEqual(made(wide(60), replace(0, 59, "u(l)"), replace(0, 59, "l")), [[-9], [0, 1000]])

    def test_24_and_25_levels(self):
        self.assertEqual(made("u(l)", replace(0, 1, chain(23)), replace(1, 1, chain(24)), replace(1, 0, chain(24)),
                              replace(1, 2023, "u(l)"), replace(1, 2023, "l")),
                         [[0, 1000], [-9], [0, 2000], [-9], [0, 2024]])
        self.assertEqual(made(chain(24), replace(0, 22, "u(l)"), replace(0, 23, "u(l)"), replace(0, 1001, "u(l)")),
                         [[0, 1000], [-6], [-9]])

    def test_900_and_901_numbers(self):
        for side, first in ((0, 1000), (1, 2000)):
            calls = [replace(side, 0, wide(60))]
            calls += [replace(side, first + 60 * k, wide(60)) for k in range(14)]
            found = made("l", *calls, replace(side, first + 840, "l"), form(side), replace(1 - side, 0, "l"),
                         number(side, 900, 1), replace(side, first + 899, "x"))
            self.assertEqual(found[:15], [[0, first + 60 * k] for k in range(15)])
            self.assertEqual(found[15], [-16])
            self.assertEqual(found[16], made(wide(60), form(0))[0])
            self.assertEqual(found[17:], [[0, 3000 - first], [-6], [-4]])

    def test_the_last_of_900_numbers(self):
        calls = [replace(0, 0, wide(60))] + [replace(0, 1000 + 60 * k, wide(60)) for k in range(13)]
        calls += [replace(0, 1780, wide(59)), replace(0, 1840, wide(2)), replace(0, 1840, "n 5"), replace(0, 1899, "l"),
                  number(0, 1899, 7), form(0)]
        self.assertEqual(made("l", *calls)[13:], [[0, 1780], [0, 1840], [-16], [0, 1899], [-16], [0], "n 7"])

    def test_texts_of_3000_and_3001_bytes(self):
        self.assertEqual(made("l", replace(0, 0, "n 1".ljust(3000)), replace(1, 0, "n 1".ljust(3001)), replace(1, 0, " " * 3000),
                              replace(1, 0, " " * 3001), form(0), form(1)), [[0, 1000], [-1], [-4], [-1], "n 1", "l"])

    def test_texts_that_are_no_trees(self):
        for text in ("", "x", "u", "l l", "n", "l 1", "u(g 1)", wide(61), chain(25), "$", "if", "u(l", "abcdefghijklm",
                     "n 1000000000000000000"):
            self.assertEqual(made("l", replace(0, 0, text), form(0), replace(0, 0, "l")), [[-4], "l", [0, 1000]])

    def test_the_order_of_refusals(self):
        long = "x" * 3001
        self.assertEqual(ask(replace(2, 7, long), grammar(PLAIN), replace(2, 7, long), replace(0, 0, "l")),
                         [[-5], [0, 3, 11], [-5], [-5]])
        for side in (-1, 2, 10 ** 18, -10 ** 18):
            self.assertEqual(made("l", replace(side, 7, long), replace(side, 0, "l")), [[-13]] * 2)
        for node in (-1, 1, 1000, 2000, 10 ** 18, -10 ** 18):
            self.assertEqual(made("l", replace(0, node, long), replace(1, node, "x")), [[-6]] * 2)
        self.assertEqual(made("u(l)", replace(0, 1, long)), [[-1]])
        # No tree is looked at before what may not stand there, that before what's too large.
        self.assertEqual(made("of(g 1)", replace(0, 1, "u(u)")), [[-4]])
        self.assertEqual(made("of(g 1)", replace(0, 1, wide(60))), [[-8]])
        self.assertEqual(made("of(g 1)", replace(0, 1, wide(61))), [[-4]])
        self.assertEqual(made("of(g 1)", replace(0, 1, chain(24))), [[-8]])

    def test_too_large_comes_before_numbers_used_up(self):
        calls = [replace(0, 0, wide(60))] + [replace(0, 1000 + 60 * k, wide(60)) for k in range(14)]
        calls += [replace(0, 1899, "u(l)"), replace(0, 1899, "l"), replace(0, 1899, "g 1"), replace(0, 1840, "x"),
                  replace(0, 1840, "g 1")]
        self.assertEqual(made("l", *calls)[15:], [[-9], [-16], [-8], [-4], [-16]])

    def test_a_refused_call_gives_no_numbers(self):
        self.assertEqual(made("top(u(l))", replace(0, 1, "x"), replace(0, 1, "g 1"), replace(0, 1, wide(60)),
                              replace(0, 9, "l"), replace(2, 1, "l"), replace(0, 1, " " * 3001), form(0), replace(0, 1, "n 3"),
                              replace(0, 2, "l"), replace(0, 1000, "l")),
                         [[-4], [-8], [-9], [-6], [-13], [-1], "top(u(l))", [0, 1000], [-6], [0, 1001]])


class WithoutTrees(unittest.TestCase):
    def test_no_trees_are_held(self):
        self.assertEqual(last(replace(0, 0, "l")), [-5])
        self.assertEqual(last(grammar(PLAIN), tree("x"), replace(0, 0, "l")), [-5])
        self.assertEqual(last(grammar(PLAIN), tree("l"), grammar(PLAIN), replace(0, 0, "l")), [-5])


if __name__ == "__main__":
    unittest.main()
