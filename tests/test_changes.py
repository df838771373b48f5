"""Promise 9: the call changes."""

import unittest

from tests.lines import PLAIN, ask, changes, form, grammar, lift, made, number, replace, swap, told, tree

# Nodes: p 0, u 1, n 2, t 3, n 4, n 5, l 6.
BASE = "p(u(n 1), t(n 2, n 3, l))"
NONE = [0]


class Changes(unittest.TestCase):
    def changed(self, *calls):
        """What the calls changed on side 0, which is told of side 1 likewise if they are made there."""
        found = made(BASE, *calls, changes(0), changes(1))
        self.assertTrue(all(answer[0] == 0 for answer in found))
        self.assertEqual(found[-1], NONE)
        mirrored = [[call[0], 1, call[2] + 1000 * (call[2] >= 1000)] + call[3:] for call in calls]
        for call in mirrored:
            if call[0] == 4 and call[3] >= 1000:
                call[3] += 1000
        other = made(BASE, *mirrored, changes(0), changes(1))
        self.assertEqual(other[-2], NONE)
        self.assertEqual(other[-1], [value + 1000 * (value >= 1000) for value in found[-2]])
        return found[-2]

    def test_nothing(self):
        self.assertEqual(made(BASE, changes(0), changes(1)), [NONE, NONE])

    def test_a_number(self):
        self.assertEqual(self.changed(number(0, 2, 9)), told((1, 2, 0)))
        self.assertEqual(self.changed(number(0, 2, 0)), told((1, 2, 0)))
        self.assertEqual(self.changed(number(0, 2, -1)), told((1, 2, 0)))

    def test_a_number_set_to_what_it_was(self):
        self.assertEqual(self.changed(number(0, 2, 1)), NONE)
        self.assertEqual(self.changed(number(0, 2, 9), number(0, 4, 5), number(0, 2, 1)), told((1, 4, 0)))

    def test_places(self):
        self.assertEqual(self.changed(swap(0, 4, 6)), told((2, 3, 1), (2, 3, 3)))
        self.assertEqual(self.changed(swap(0, 1, 3)), told((2, 0, 1), (2, 0, 2)))
        self.assertEqual(self.changed(swap(0, 2, 3)), told((2, 0, 2), (2, 1, 1)))

    def test_a_place_changed_back(self):
        self.assertEqual(self.changed(swap(0, 4, 6), swap(0, 6, 4)), NONE)
        self.assertEqual(self.changed(swap(0, 4, 6), swap(0, 2, 5), swap(0, 4, 6)), told((2, 1, 1), (2, 3, 2)))
        self.assertEqual(self.changed(swap(0, 4, 5), swap(0, 5, 6), swap(0, 4, 6)), told((2, 3, 2), (2, 3, 3)))

    def test_the_roots_place(self):
        self.assertEqual(self.changed(lift(0, 3)), told((2, -1, 0), (3, 0, 0), (3, 1, 0), (3, 2, 0)))
        self.assertEqual(self.changed(replace(0, 0, "u(l)")),
                         told((2, -1, 0), *[(3, node, 0) for node in range(7)], (4, 1000, 0), (4, 1001, 0)))
        self.assertEqual(self.changed(swap(0, 4, 6), lift(0, 3)),
                         told((2, -1, 0), (2, 3, 1), (2, 3, 3), (3, 0, 0), (3, 1, 0), (3, 2, 0)))

    def test_all_four_kinds(self):
        self.assertEqual(self.changed(number(0, 4, 9), replace(0, 1, "n 7")),
                         told((1, 4, 0), (2, 0, 1), (3, 1, 0), (3, 2, 0), (4, 1000, 0)))
        self.assertEqual(self.changed(number(0, 5, 9), replace(0, 4, "u(n 7)"), number(0, 1001, 3), lift(0, 3)),
                         told((1, 5, 0), (2, -1, 0), (2, 3, 1), (3, 0, 0), (3, 1, 0), (3, 2, 0), (3, 4, 0), (4, 1000, 0),
                              (4, 1001, 0)))

    def test_nodes_are_told_by_their_numbers_not_where_they_stand(self):
        self.assertEqual(self.changed(swap(0, 1, 3), number(0, 5, 8), number(0, 2, 9), number(0, 4, 7)),
                         told((1, 2, 0), (1, 4, 0), (1, 5, 0), (2, 0, 1), (2, 0, 2)))
        self.assertEqual(self.changed(replace(0, 5, "n 1"), replace(0, 4, "n 2")),
                         told((2, 3, 1), (2, 3, 2), (3, 4, 0), (3, 5, 0), (4, 1000, 0), (4, 1001, 0)))
        self.assertEqual(self.changed(replace(0, 6, "l"), lift(0, 2)),
                         told((2, 0, 1), (2, 3, 3), (3, 1, 0), (3, 6, 0), (4, 1000, 0)))
        self.assertEqual(self.changed(swap(0, 1, 3), swap(0, 2, 5)), told((2, 0, 1), (2, 0, 2), (2, 1, 1), (2, 3, 2)))

    def test_of_a_gone_node_nothing_else_is_told(self):
        self.assertEqual(self.changed(number(0, 2, 9), replace(0, 1, "l")),
                         told((2, 0, 1), (3, 1, 0), (3, 2, 0), (4, 1000, 0)))
        self.assertEqual(self.changed(swap(0, 4, 5), lift(0, 1)), told((2, -1, 0), *[(3, k, 0) for k in (0, 3, 4, 5, 6)]))

    def test_a_moved_node_is_not_gone(self):
        self.assertEqual(self.changed(swap(0, 2, 6), replace(0, 1, "l")),
                         told((2, 0, 1), (2, 3, 3), (3, 1, 0), (3, 6, 0), (4, 1000, 0)))

    def test_of_a_new_node_nothing_else_is_told(self):
        # The base's node 2 stands below the new node 1000, whose place is no place of the base.
        self.assertEqual(self.changed(replace(0, 6, "u(n 5)"), swap(0, 1001, 2), number(0, 1001, 8)),
                         told((2, 1, 1), (2, 3, 3), (3, 6, 0), (4, 1000, 0), (4, 1001, 0)))

    def test_a_node_that_was_new_and_is_gone_is_not_told(self):
        self.assertEqual(self.changed(replace(0, 2, "u(n 5)"), replace(0, 1000, "l")),
                         told((2, 1, 1), (3, 2, 0), (4, 1002, 0)))
        self.assertEqual(self.changed(replace(0, 2, "l"), replace(0, 4, "l"), lift(0, 1)),
                         told((2, -1, 0), (2, 1, 1), *[(3, k, 0) for k in (0, 2, 3, 4, 5, 6)], (4, 1000, 0)))

    def test_a_node_that_looks_the_same_is_another(self):
        self.assertEqual(self.changed(replace(0, 2, "n 1")), told((2, 1, 1), (3, 2, 0), (4, 1000, 0)))

    def test_each_side_by_itself(self):
        self.assertEqual(made(BASE, number(0, 2, 9), swap(1, 4, 5), changes(0), changes(1), number(1, 2, 9), changes(1)),
                         [[0], [0], told((1, 2, 0)), told((2, 3, 1), (2, 3, 2)), [0], told((1, 2, 0), (2, 3, 1), (2, 3, 2))])

    def test_refused_edits_change_nothing(self):
        self.assertEqual(made(BASE, number(0, 0, 1), swap(0, 1, 2), lift(0, 0), replace(0, 1, "g 1"), number(0, 2, 10 ** 18),
                              changes(0)), [[-11], [-10], [-14], [-8], [-12], NONE])

    def test_a_new_tree_has_no_changes(self):
        found = ask(grammar(PLAIN), tree(BASE), number(0, 2, 9), tree(BASE), changes(0), number(0, 2, 9), tree("x"), changes(0))
        self.assertEqual(found[4:], [NONE, [0], [-4], told((1, 2, 0))])

    def test_it_changes_nothing(self):
        self.assertEqual(made(BASE, swap(0, 1, 3), changes(0), changes(0), form(0), form(2)),
                         [[0]] + [told((2, 0, 1), (2, 0, 2))] * 2 + ["p(t(n 2, n 3, l), u(n 1))", BASE])

    def test_refusals_and_their_order(self):
        far = 10 ** 18
        wrong = [changes(2), changes(-1), changes(3), changes(far), changes(-far)]
        self.assertEqual(made(BASE, *wrong, changes(0)), [[-13]] * 5 + [NONE])
        self.assertEqual(ask(*wrong, changes(0), grammar(PLAIN), *wrong, changes(1)), [[-5]] * 6 + [[0, 3, 11]] + [[-5]] * 6)


if __name__ == "__main__":
    unittest.main()
