"""Promise 14: the call reset."""

import unittest

from tests.lines import PLAIN, accept, all_of_them, ask, changes, conflicts, form, grammar, lift, made, merge, nodes, number, replace
from tests.lines import reset, swap, told, tree, wide

# Nodes: t 0, n 1, u 2, n 3, p 4, n 5, n 6.
BASE = "t(n 1, u(n 2), p(n 3, n 4))"
ALL = [0, 0, 1, 2, 3, 4, 5, 6]


class Reset(unittest.TestCase):
    def test_the_sides_tree_is_the_base_again(self):
        for side in (0, 1):
            for edit in (number(side, 3, 9), swap(side, 1, 4), lift(side, 3), lift(side, 4), replace(side, 2, "u(l)"),
                         replace(side, 0, "g 1")):
                found = made(BASE, edit, changes(side), reset(side), form(side), nodes(side), changes(side), form(2), nodes(2))
                self.assertGreater(len(found[1]), 1)
                self.assertEqual(found[2:], [[0], BASE, ALL, [0], BASE, ALL])

    def test_the_other_side_stays(self):
        found = made(BASE, number(0, 3, 8), swap(1, 1, 4), *all_of_them(1), reset(0), *all_of_them(1), form(0), merge())
        self.assertEqual(found[2:5], found[6:9])
        self.assertEqual(found[9:], [BASE, "t(p(n 3, n 4), u(n 2), n 1)"])
        found = made(BASE, number(0, 3, 8), swap(1, 1, 4), *all_of_them(0), reset(1), *all_of_them(0), form(1), merge())
        self.assertEqual(found[2:5], found[6:9])
        self.assertEqual(found[9:], [BASE, "t(n 1, u(n 8), p(n 3, n 4))"])

    def test_a_side_that_is_edited_again(self):
        self.assertEqual(made(BASE, number(0, 3, 8), reset(0), number(0, 5, 7), lift(0, 3), form(0), form(2), changes(0)),
                         [[0], [0], [0], [0], "t(n 1, n 2, p(n 7, n 4))", BASE, told((1, 5, 0), (2, 0, 2), (3, 2, 0))])

    def test_numbers_given_before_are_not_given_again(self):
        for side, first in ((0, 1000), (1, 2000)):
            self.assertEqual(made(BASE, replace(side, 2, "u(l)"), reset(side), number(side, first, 1), replace(side, 1, "n 1"),
                                  reset(side), reset(side), replace(side, 1, "n 1"), nodes(side), replace(1 - side, 1, "l")),
                             [[0, first], [0], [-6], [0, first + 2], [0], [0], [0, first + 3],
                              [0, 0, first + 3, 2, 3, 4, 5, 6], [0, 3000 - first]])

    def test_numbers_given_before_count_for_the_bound(self):
        for side, first in ((0, 1000), (1, 2000)):
            calls = []
            for k in range(14):
                calls += [replace(side, 0, wide(60)), reset(side)]
            calls += [replace(side, 0, wide(59)), reset(side), replace(side, 1, "u(l)"), replace(side, 1, "l"), reset(side),
                      replace(side, 1, "l"), form(side), replace(1 - side, 1, "l")]
            self.assertEqual(made(BASE, *calls)[28:], [[0, first + 840], [0], [-16], [0, first + 899], [0], [-16], BASE,
                                                       [0, 3000 - first]])

    def test_a_side_that_changed_nothing(self):
        self.assertEqual(made(BASE, reset(0), reset(1), *all_of_them())[:5], [[0], [0], BASE, ALL, [0]])

    def test_conflicts_are_gone(self):
        self.assertEqual(made("n 1", number(0, 0, 5), number(1, 0, 6), conflicts(), reset(1), conflicts(), merge(), reset(0), merge()),
                         [[0], [0], told((1, 0, 0)), [0], [0], "n 5", [0], "n 1"])

    def test_the_base_is_the_one_that_was_accepted_last(self):
        self.assertEqual(made("p(n 1, l)", replace(0, 2, "n 2"), accept(), number(0, 2, 3), lift(1, 2), reset(0), reset(1), form(0),
                              form(1), replace(0, 2, "l")),
                         [[0, 1000], [0, 3], [0], [0], [0], [0], "p(n 1, n 2)", "p(n 1, n 2)", [0, 1000]])

    def test_refusals_and_their_order(self):
        far = 10 ** 18
        wrong = [reset(2), reset(-1), reset(3), reset(far), reset(-far)]
        found = made(BASE, number(0, 3, 9), lift(1, 4), *all_of_them(), *wrong, *all_of_them())
        count = len(all_of_them())
        self.assertEqual(found[2 + count:7 + count], [[-13]] * 5)
        self.assertEqual(found[2:2 + count], found[7 + count:])
        self.assertEqual(ask(*wrong, reset(0), grammar(PLAIN), *wrong, reset(1), tree("l"), reset(1), grammar(PLAIN), reset(0)),
                         [[-5]] * 6 + [[0, 3, 11]] + [[-5]] * 6 + [[0, 1], [0], [0, 3, 11], [-5]])


if __name__ == "__main__":
    unittest.main()
