"""Promises 4, 5 and 6: the calls number, swap and lift."""

import unittest

from tests.lines import PLAIN, ask, chain, form, grammar, lift, made, number, replace, swap, tree

MOST = 999999999999999999


class Number(unittest.TestCase):
    def test_the_node_holds_the_value(self):
        self.assertEqual(made("p(n 1, u(n 2))", number(0, 1, 5), number(0, 3, -6), number(1, 3, 0), form(0), form(1), form(2)),
                         [[0], [0], [0], "p(n 5, u(n -6))", "p(n 1, u(n 0))", "p(n 1, u(n 2))"])

    def test_the_last_value_holds(self):
        self.assertEqual(made("n 1", number(0, 0, 2), number(0, 0, 3), form(0), number(0, 0, 1), form(0)),
                         [[0], [0], "n 3", [0], "n 1"])

    def test_a_node_with_children_and_a_number(self):
        rules = "S > ; m S #: S S { } k S: { }"
        self.assertEqual(made("m 1(k, m 2(k, k))", number(0, 0, -9), number(0, 2, 4), form(0), rules=rules),
                         [[0], [0], "m -9(k, m 4(k, k))"])

    def test_a_new_node(self):
        self.assertEqual(made("l", replace(1, 0, "u(n 1)"), number(1, 2001, 8), form(1)), [[0, 2000], [0], "u(n 8)"])

    def test_values_at_the_bounds(self):
        for value, answer in ((MOST, [0]), (MOST + 1, [-12]), (-MOST, [0]), (-MOST - 1, [-12]), (0, [0])):
            self.assertEqual(made("n 1", number(0, 0, value), form(0)),
                             [answer, "n " + str(value if answer == [0] else 1)])

    def test_the_order_of_refusals(self):
        far = MOST + 1
        self.assertEqual(ask(number(2, 5, far), grammar(PLAIN), number(2, 5, far)), [[-5], [0, 3, 11], [-5]])
        self.assertEqual(made("u(l)", number(2, 5, far), number(-1, 0, 1), number(0, 5, far), number(0, -1, 1),
                              number(1, 1000, 1), number(0, 1, far), number(0, 0, 1), form(0), form(1)),
                         [[-13], [-13], [-6], [-6], [-6], [-11], [-11], "u(l)", "u(l)"])

    def test_a_node_of_the_other_side(self):
        self.assertEqual(made("u(n 1)", replace(0, 1, "n 2"), number(1, 1000, 3), number(0, 1, 3), number(1, 1, 4), form(0),
                              form(1)), [[0, 1000], [-6], [-6], [0], "u(n 2)", "u(n 4)"])


class Swap(unittest.TestCase):
    def test_trees_exchange_their_places(self):
        base = "p(u(n 1), p(n 2, n 3))"
        for node, other, expected in ((1, 3, "p(p(n 2, n 3), u(n 1))"), (1, 4, "p(n 2, p(u(n 1), n 3))"),
                                      (2, 5, "p(u(n 3), p(n 2, n 1))"), (4, 5, "p(u(n 1), p(n 3, n 2))"),
                                      (2, 3, "p(u(p(n 2, n 3)), n 1)")):
            self.assertEqual(made(base, swap(0, node, other), form(0), form(1), form(2)), [[0], expected, base, base])
            self.assertEqual(made(base, swap(1, other, node), form(1), form(0)), [[0], expected, base])

    def test_nodes_keep_their_numbers(self):
        self.assertEqual(made("p(u(n 1), n 2)", swap(0, 1, 3), number(0, 2, 7), number(0, 3, 8), form(0), swap(0, 3, 1), form(0)),
                         [[0], [0], [0], "p(n 8, u(n 7))", [0], "p(u(n 7), n 8)"])

    def test_swaps_of_new_nodes(self):
        self.assertEqual(made("p(l, n 1)", replace(0, 1, "u(n 2)"), swap(0, 1001, 2), form(0), swap(0, 1000, 1001), form(0)),
                         [[0, 1000], [0], "p(u(n 1), n 2)", [0], "p(n 2, u(n 1))"])

    def test_one_within_the_other(self):
        base = "p(u(n 1), n 2)"
        for node, other in ((0, 0), (0, 1), (1, 0), (0, 2), (2, 0), (1, 1), (1, 2), (2, 1), (3, 3), (3, 0)):
            self.assertEqual(made(base, swap(0, node, other), form(0)), [[-10], base])

    def test_symbols_that_differ(self):
        base = "two(of(g 1), f(from(l)))"
        self.assertEqual(made(base, swap(0, 1, 3), swap(0, 2, 5), swap(0, 2, 3), swap(0, 1, 5), form(0)),
                         [[-8], [-8], [0], [-10], "two(of(f(from(l))), g 1)"])

    def test_24_and_25_levels(self):
        # The long branch ends on the level 24; the node 1 is on the level 2, its child on the level 3.
        base = "p(u(l), " + chain(23) + ")"
        self.assertEqual(made(base, swap(0, 2, 4), form(0)), [[0], "p(u(" + chain(22) + "), u(l))"])
        self.assertEqual(made(base, swap(0, 2, 3), form(0)), [[-9], made(base, form(2))[0]])
        self.assertEqual(made(base, swap(0, 1, 25), form(0)), [[-9], made(base, form(2))[0]])
        self.assertEqual(made(base, swap(0, 1, 24), form(0))[0], [0])

    def test_the_order_of_refusals(self):
        self.assertEqual(ask(swap(2, 9, 9), grammar(PLAIN), swap(0, 0, 0)), [[-5], [0, 3, 11], [-5]])
        base = "two(of(g 1), f(g 2))"
        self.assertEqual(made(base, swap(2, 9, 9), swap(-1, 0, 0), swap(0, 9, 0), swap(0, 0, 9), swap(0, 9, 9),
                              swap(1, 1000, 1), swap(0, 1, 2), swap(0, 2, 1), swap(0, 1, 0), form(0), form(1)),
                         [[-13], [-13], [-6], [-6], [-6], [-6], [-10], [-10], [-10], base, base])

    def test_symbols_come_before_levels(self):
        base = "t(u(of(g 1)), l, " + chain(23) + ")"
        # 3 is of the symbol F; the chain's root 5 is of E and would end too deep there.
        self.assertEqual(made(base, swap(0, 3, 5), swap(0, 2, 5)), [[-8], [-9]])


class Lift(unittest.TestCase):
    def test_the_nodes_tree_stands_in_its_parents_stead(self):
        base = "p(u(p(n 1, n 2)), n 3)"
        for node, expected in ((1, "u(p(n 1, n 2))"), (2, "p(p(n 1, n 2), n 3)"), (3, "p(u(n 1), n 3)"),
                               (4, "p(u(n 2), n 3)"), (5, "n 3")):
            for side in (0, 1):
                self.assertEqual(made(base, lift(side, node), form(side), form(1 - side), form(2)), [[0], expected, base, base])

    def test_the_node_keeps_its_number_and_the_rest_is_gone(self):
        self.assertEqual(made("p(u(p(n 1, n 2)), n 3)", lift(0, 3), number(0, 3, 7), number(0, 4, 7), lift(0, 2), lift(0, 3),
                              form(0), lift(0, 3), lift(0, 1), form(0)),
                         [[0], [0], [-6], [-6], [0], "p(n 7, n 3)", [0], [-6], "n 7"])

    def test_to_the_root(self):
        self.assertEqual(made("p(n 1, n 2)", lift(1, 2), lift(1, 2), number(1, 2, 4), form(1), lift(1, 0)),
                         [[0], [-14], [0], "n 4", [-6]])

    def test_what_may_stand_there(self):
        # At the root any symbol may stand, below it only the parent's own.
        self.assertEqual(made("u(of(f(g 1)))", lift(0, 2), lift(0, 3), form(0), lift(0, 3), form(0), lift(0, 1), lift(0, 3),
                              form(0)), [[-8], [0], "u(of(g 1))", [-8], "u(of(g 1))", [0], [0], "g 1"])
        self.assertEqual(made("two(l, g 1)", lift(0, 2), lift(1, 1), form(0), form(1)), [[0], [0], "g 1", "l"])

    def test_a_new_node(self):
        self.assertEqual(made("u(l)", replace(0, 1, "p(n 1, u(n 2))"), lift(0, 1002), form(0), lift(0, 1003), form(0)),
                         [[0, 1000], [0], "u(u(n 2))", [0], "u(n 2)"])

    def test_the_order_of_refusals(self):
        self.assertEqual(ask(lift(2, 9), grammar(PLAIN), lift(2, 9), tree("l"), lift(2, 9), lift(-1, 0), lift(1, 9), lift(0, -1),
                             lift(0, 0), lift(1, 0), form(0)),
                         [[-5], [0, 3, 11], [-5], [0, 1], [-13], [-13], [-6], [-6], [-14], [-14], "l"])


if __name__ == "__main__":
    unittest.main()
