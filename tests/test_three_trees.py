"""The base and the two sides: their numbers, and that they stay apart."""

import unittest

from tests.lines import ask, form, grammar, lift, made, number, replace, swap, tree

BASE = "t(n 1, u(n 2), p(n 3, n 4))"


class ThreeTrees(unittest.TestCase):
    def test_the_nodes_of_the_base_are_numbered_from_0_in_their_order(self):
        for node, changed in ((1, "t(n 9, u(n 2), p(n 3, n 4))"), (3, "t(n 1, u(n 9), p(n 3, n 4))"),
                              (5, "t(n 1, u(n 2), p(n 9, n 4))"), (6, "t(n 1, u(n 2), p(n 3, n 9))")):
            self.assertEqual(made(BASE, number(0, node, 9), form(0)), [[0], changed])
        for node in (0, 2, 4):
            self.assertEqual(made(BASE, number(1, node, 9)), [[-11]])
        self.assertEqual(made(BASE, number(1, 7, 9), number(1, -1, 9)), [[-6], [-6]])

    def test_new_nodes_of_the_sides(self):
        self.assertEqual(made(BASE, replace(0, 1, "u(l)"), replace(1, 1, "u(l)"), replace(1, 2, "l"), replace(0, 2, "l"),
                              replace(0, 4, "n 5"), replace(1, 4, "n 5")),
                         [[0, 1000], [0, 2000], [0, 2002], [0, 1002], [0, 1003], [0, 2003]])

    def test_a_refused_call_gives_no_numbers_on_either_side(self):
        self.assertEqual(made(BASE, replace(0, 1, "g 1"), replace(1, 1, "x"), replace(0, 1, "l"), replace(1, 1, "l")),
                         [[-8], [-4], [0, 1000], [0, 2000]])

    def test_an_edit_shows_on_its_side_alone(self):
        edits = {
            "replace": lambda side: replace(side, 2, "l"),
            "number": lambda side: number(side, 6, 8),
            "swap": lambda side: swap(side, 1, 4),
            "lift": lambda side: lift(side, 3),
            "lift to the root": lambda side: lift(side, 4),
        }
        changed = {
            "replace": "t(n 1, l, p(n 3, n 4))",
            "number": "t(n 1, u(n 2), p(n 3, n 8))",
            "swap": "t(p(n 3, n 4), u(n 2), n 1)",
            "lift": "t(n 1, n 2, p(n 3, n 4))",
            "lift to the root": "p(n 3, n 4)",
        }
        for first in edits:
            for side in (0, 1):
                found = made(BASE, edits[first](side), form(side), form(1 - side), form(2))
                self.assertEqual(found[1:], [changed[first], BASE, BASE])
            for second in edits:
                found = made(BASE, edits[first](0), edits[second](1), form(0), form(1), form(2))
                self.assertEqual(found[2:], [changed[first], changed[second], BASE])

    def test_a_node_gone_on_one_side_is_there_on_the_other(self):
        self.assertEqual(made(BASE, lift(0, 3), lift(0, 2), lift(1, 2), number(1, 3, 5), form(0), form(1), form(2)),
                         [[0], [-6], [0], [0], "t(n 1, n 2, p(n 3, n 4))", "u(n 5)", BASE])

    def test_a_node_new_on_one_side_is_unknown_on_the_other(self):
        self.assertEqual(made(BASE, replace(0, 1, "n 7"), number(1, 1000, 1), swap(1, 1000, 2), swap(1, 2, 1000), lift(1, 1000),
                              replace(1, 1000, "l"), replace(1, 1, "n 8"), number(0, 2000, 1)),
                         [[0, 1000], [-6], [-6], [-6], [-6], [-6], [0, 2000], [-6]])

    def test_moved_nodes_keep_what_is_below_them(self):
        self.assertEqual(made(BASE, swap(0, 2, 5), number(0, 3, 7), replace(0, 2, "n 6"), form(0), number(0, 3, 1), lift(0, 6),
                              form(0)),
                         [[0], [0], [0, 1000], "t(n 1, n 3, p(n 6, n 4))", [-6], [0], "t(n 1, n 3, n 4)"])

    def test_lists_of_refused_calls_change_nothing(self):
        refused = [replace(0, 1, "g 1"), number(0, 0, 1), number(0, 1, 10 ** 18), swap(0, 2, 3), lift(0, 0), swap(0, 1, 99),
                   replace(1, 1, "u(u(l)"), lift(1, 44), grammar("S"), tree("S"), form(4), number(7, 1, 1)]
        found = made(BASE, *refused, form(0), form(1), form(2))
        self.assertTrue(all(answer[0] < 0 and len(answer) == 1 for answer in found[:len(refused)]))
        self.assertEqual(found[len(refused):], [BASE] * 3)

    def test_without_trees_all_edits_are_refused_first(self):
        calls = [replace(9, 9, "x" * 3001), number(9, 9, 10 ** 18), swap(9, 9, 9), lift(9, 9), form(9)]
        self.assertEqual(ask(*calls), [[-5]] * 5)


if __name__ == "__main__":
    unittest.main()
