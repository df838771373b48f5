"""Promise 8: the call nodes."""

import unittest

from tests.lines import PLAIN, ask, form, grammar, lift, made, nodes, number, replace, swap, tree, wide

# Nodes: t 0, n 1, u 2, n 3, p 4, n 5, n 6.
BASE = "t(n 1, u(n 2), p(n 3, n 4))"
ALL = [0, 0, 1, 2, 3, 4, 5, 6]


class Nodes(unittest.TestCase):
    def test_the_base_and_both_sides_to_begin_with(self):
        self.assertEqual(made(BASE, nodes(0), nodes(1), nodes(2)), [ALL] * 3)
        self.assertEqual(made("l", nodes(0), nodes(1), nodes(2)), [[0, 0]] * 3)

    def test_behind_swap(self):
        for node, other, order in ((1, 4, [0, 0, 4, 5, 6, 2, 3, 1]), (4, 1, [0, 0, 4, 5, 6, 2, 3, 1]),
                                   (2, 6, [0, 0, 1, 6, 4, 5, 2, 3]), (3, 4, [0, 0, 1, 2, 4, 5, 6, 3])):
            self.assertEqual(made(BASE, swap(0, node, other), nodes(0), nodes(1), nodes(2)), [[0], order, ALL, ALL])
            self.assertEqual(made(BASE, swap(1, node, other), nodes(0), nodes(1), nodes(2)), [[0], ALL, order, ALL])

    def test_behind_lift(self):
        for node, order in ((4, [0, 4, 5, 6]), (3, [0, 0, 1, 3, 4, 5, 6]), (6, [0, 0, 1, 2, 3, 6]), (1, [0, 1])):
            self.assertEqual(made(BASE, lift(0, node), nodes(0), nodes(1), nodes(2)), [[0], order, ALL, ALL])
            self.assertEqual(made(BASE, lift(1, node), nodes(0), nodes(1), nodes(2)), [[0], ALL, order, ALL])

    def test_behind_replace(self):
        found = made(BASE, replace(0, 2, "p(l, l)"), replace(1, 1, "u(l)"), nodes(0), nodes(1), nodes(2),
                     replace(1, 0, "u(u(l))"), nodes(1))
        self.assertEqual(found, [[0, 1000], [0, 2000], [0, 0, 1, 1000, 1001, 1002, 4, 5, 6], [0, 0, 2000, 2001, 2, 3, 4, 5, 6],
                                 ALL, [0, 2002], [0, 2002, 2003, 2004]])

    def test_behind_number(self):
        self.assertEqual(made(BASE, number(0, 5, 99), number(0, 1, 98), nodes(0), nodes(2)), [[0], [0], ALL, ALL])

    def test_behind_all_of_them(self):
        found = made(BASE, replace(0, 1, "u(l)"), swap(0, 1001, 4), nodes(0), form(0), lift(0, 6), nodes(0), number(0, 3, 7),
                     swap(0, 1001, 6), nodes(0), form(0))
        self.assertEqual(found, [[0, 1000], [0], [0, 0, 1000, 4, 5, 6, 2, 3, 1001], "t(u(p(n 3, n 4)), u(n 2), l)",
                                 [0], [0, 0, 1000, 6, 2, 3, 1001], [0], [0], [0, 0, 1000, 1001, 2, 3, 6], "t(u(l), u(n 7), n 4)"])

    def test_60_nodes(self):
        self.assertEqual(made(wide(60), nodes(2), replace(1, 0, wide(60)), nodes(1)),
                         [[0] + list(range(60)), [0, 2000], [0] + list(range(2000, 2060))])

    def test_refusals_and_their_order(self):
        far = 10 ** 18
        wrong = [nodes(-1), nodes(3), nodes(1000), nodes(far), nodes(-far)]
        self.assertEqual(made(BASE, *wrong, nodes(0)), [[-13]] * 5 + [ALL])
        # Without trees that comes first, whatever is asked for.
        self.assertEqual(ask(*wrong, nodes(0), grammar(PLAIN), *wrong, nodes(2)), [[-5]] * 6 + [[0, 3, 11]] + [[-5]] * 6)
        self.assertEqual(ask(grammar(PLAIN), tree(BASE), grammar(PLAIN), nodes(3), nodes(2), tree("u(l)"), nodes(2))[3:],
                         [[-5], [-5], [0, 2], [0, 0, 1]])


if __name__ == "__main__":
    unittest.main()
