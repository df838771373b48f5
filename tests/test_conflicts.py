"""Promise 10: the call conflicts, and what the document says of merging."""

import unittest

from tests.lines import EXAMPLE, PLAIN, ask, conflicts, form, grammar, lift, made, merge, nodes, number, origin, replace, reset
from tests.lines import swap, told, tree

NONE = [0]
# Each node holds a number.
HOLDING = "E > ; l E #: { } u E #: E { } t E #: E E E { }"


def exchanged(call):
    """The same edit on the other side."""
    def node(value):
        return {1: value + 1000, 2: value - 1000}.get(value // 1000, value)
    changed = [call[0], 1 - call[1], node(call[2])] + call[3:]
    if call[0] == 4:
        changed[3] = node(call[3])
    return changed


class Conflicts(unittest.TestCase):
    def conflicts(self, base, *calls, rules=PLAIN):
        found = made(base, *calls, conflicts(), merge(), origin(), rules=rules)
        self.assertTrue(all(answer[0] == 0 for answer in found[:-3]), found)
        if found[-3] != NONE:
            self.assertEqual(found[-2:], [[-17], [-17]])
        return found[-3]

    def merged(self, base, *calls, rules=PLAIN):
        """The merged tree of edits without conflicts, which is the same if the sides are exchanged."""
        self.assertEqual(self.conflicts(base, *calls, rules=rules), NONE)
        found = made(base, *calls, merge(), rules=rules)[-1]
        self.assertEqual(made(base, *[exchanged(call) for call in calls], conflicts(), merge(), rules=rules)[-2:], [NONE, found])
        return found

    def test_the_documents_example(self):
        found = made("add(lit 1, lit 2)", conflicts(), number(0, 1, 5), replace(1, 2, "add(lit 8, lit 9)"), conflicts(), merge(),
                     number(0, 2, 7), conflicts(), merge(), number(1, 1, 6), conflicts(), merge(), rules=EXAMPLE)
        self.assertEqual(found, [NONE, [0], [0, 2000], NONE, "add(lit 5, add(lit 8, lit 9))",
                                 [0], told((4, 2, 0)), [-17], [0], told((1, 1, 0), (4, 2, 0)), [-17]])

    def test_nothing_changed(self):
        self.assertEqual(self.merged("p(u(n 1), l)"), "p(u(n 1), l)")

    def test_numbers_that_clash(self):
        self.assertEqual(self.conflicts("p(n 1, n 2)", number(0, 1, 5), number(1, 1, 6)), told((1, 1, 0)))
        self.assertEqual(self.conflicts("p(n 1, n 2)", number(0, 2, 5), number(1, 2, 6), number(0, 1, 5), number(1, 1, 6)),
                         told((1, 1, 0), (1, 2, 0)))
        self.assertEqual(self.conflicts("n 1", number(0, 0, 0), number(1, 0, -1)), told((1, 0, 0)))

    def test_numbers_that_do_not_clash(self):
        base = "p(n 1, n 2)"
        self.assertEqual(self.merged(base, number(0, 1, 5), number(1, 1, 5)), "p(n 5, n 2)")
        self.assertEqual(self.merged(base, number(0, 1, 5)), "p(n 5, n 2)")
        self.assertEqual(self.merged(base, number(0, 1, 5), number(1, 2, 6)), "p(n 5, n 6)")
        self.assertEqual(self.merged(base, number(0, 1, 5), number(1, 1, 6), number(0, 1, 1)), "p(n 6, n 2)")
        self.assertEqual(self.merged(base, number(0, 1, 5), number(1, 1, 6), number(1, 1, 5)), "p(n 5, n 2)")

    def test_numbers_of_a_moved_node_clash(self):
        self.assertEqual(self.conflicts("p(n 1, n 2)", swap(0, 1, 2), number(0, 1, 5), number(1, 1, 6)), told((1, 1, 0)))
        self.assertEqual(self.merged("p(n 1, n 2)", swap(0, 1, 2), number(1, 1, 6)), "p(n 2, n 6)")

    def test_a_childs_place_that_clashes(self):
        self.assertEqual(self.conflicts("p(l, l)", replace(0, 1, "n 1"), replace(1, 1, "n 1")), told((2, 0, 1), (4, 2000, 0)))
        self.assertEqual(self.conflicts("p(l, u(l))", replace(0, 3, "n 1"), replace(1, 3, "u(n 1)")),
                         told((2, 2, 1), (4, 2000, 0), (4, 2001, 0)))
        # Nodes of the base at the place, which neither side has worked on: t(n 1, n 2, n 3) becomes 2 1 3 and 3 2 1.
        self.assertEqual(self.conflicts("t(n 1, n 2, n 3)", swap(0, 1, 2), swap(1, 1, 3)), told((2, 0, 1), (3, 1, 0)))

    def test_the_roots_place_that_clashes(self):
        self.assertEqual(self.conflicts("p(u(l), l)", lift(0, 1), lift(1, 3)), told((2, -1, 0)))
        self.assertEqual(self.conflicts("l", replace(0, 0, "l"), replace(1, 0, "l")), told((2, -1, 0), (4, 2000, 0)))
        self.assertEqual(self.conflicts("p(u(l), l)", lift(0, 1), replace(1, 0, "g 1")), told((2, -1, 0), (4, 2000, 0)))
        # Side 0's root is gone on with: so the new one is in the merged tree, if side 0 has put it there.
        self.assertEqual(self.conflicts("p(u(l), l)", replace(0, 0, "g 1"), lift(1, 1)), told((2, -1, 0)))

    def test_places_that_do_not_clash(self):
        self.assertEqual(self.merged("p(u(l), l)", lift(0, 1), lift(1, 1)), "u(l)")
        self.assertEqual(self.merged("t(n 1, n 2, n 3)", swap(0, 1, 2), swap(1, 2, 1)), "t(n 2, n 1, n 3)")
        self.assertEqual(self.merged("p(u(n 1), u(n 2))", lift(0, 2), lift(1, 4)), "p(n 1, n 2)")
        self.assertEqual(self.merged("p(u(n 1), l)", replace(0, 2, "n 4"), replace(1, 3, "n 5")), "p(u(n 4), n 5)")
        self.assertEqual(self.merged("p(u(n 1), l)", lift(0, 1), number(1, 2, 5)), "u(n 5)")
        self.assertEqual(self.merged("t(n 1, n 2, n 3)", swap(0, 1, 2), swap(1, 1, 3), swap(1, 1, 3)), "t(n 2, n 1, n 3)")

    def test_a_node_at_two_places(self):
        # p 0, p 1, n 2, n 3, n 4: side 0 has node 2 at the place (0, 2), side 1 at (0, 1).
        self.assertEqual(self.conflicts("p(p(n 1, n 2), n 3)", swap(0, 2, 4), lift(1, 2)), told((3, 2, 0), (4, 1, 0)))
        self.assertEqual(self.conflicts("p(p(n 1, n 2), n 3)", swap(1, 2, 4), lift(0, 2)), told((3, 2, 0), (4, 1, 0)))
        # t 0, n 1, u 2, n 3, n 4: node 3 at (0, 1) and (0, 3), and at its own place 1 or 4.
        self.assertEqual(self.conflicts("t(n 1, u(n 2), n 3)", swap(0, 3, 1), swap(1, 3, 4)), told((2, 2, 1), (3, 3, 0)))

    def test_a_node_with_all_below_it_at_two_places(self):
        # t 0, u 1, u 2, n 3, u 4, n 5, n 6: node 2, with 3 below it, at (0, 3) and (0, 1); only node 2 is told.
        self.assertEqual(self.conflicts("t(u(u(n 1)), u(n 2), n 3)", swap(0, 2, 6), lift(1, 2)), told((3, 2, 0), (4, 1, 0)))

    def test_a_node_that_is_the_root_and_stands_at_a_childs_place(self):
        # p 0, u 1, l 2, u 3, l 4: side 0 is u(u(l)) of 1 3 4, side 1 p(l, u(u(l))) of 0 4 3 1 2; merged, 1 stands below 3.
        edits = [swap(0, 2, 3), lift(0, 1), swap(1, 4, 1)]
        self.assertEqual(self.conflicts("p(u(l), u(l))", *edits), told((3, 1, 0), (4, 0, 0)))
        self.assertEqual(self.conflicts("p(u(l), u(l))", *[exchanged(call) for call in edits]), told((3, 1, 0), (4, 0, 0)))
        self.assertEqual(made("p(u(l), u(l))", *edits, form(0), form(1), nodes(0), nodes(1))[3:],
                         ["u(u(l))", "p(l, u(u(l)))", [0, 1, 3, 4], [0, 0, 4, 3, 1, 2]])

    def test_nodes_below_each_other_that_the_root_does_not_reach(self):
        # t 0, u 1, n 2, u 3, n 4, l 5: side 0 puts 1 below 3, side 1 puts 3 below 1.
        self.assertEqual(self.conflicts("t(u(n 1), u(n 2), l)", swap(0, 1, 4), swap(1, 3, 2)), told((4, 1, 0), (4, 3, 0)))

    def test_of_nodes_that_are_not_in_the_merged_tree_no_clash_is_told(self):
        # As above, but the numbers of 1 and 3 clash too, and both sides have worked on both.
        self.assertEqual(self.conflicts("t 0(u 0(l 1), u 0(l 2), l 3)", swap(0, 1, 4), swap(1, 3, 2), number(0, 1, 5),
                                        number(1, 1, 6), number(0, 3, 7), number(1, 3, 8), rules=HOLDING),
                         told((4, 1, 0), (4, 3, 0)))
        # t 0, u 1, n 2, u 3, n 4, l 5: the place of 1's child clashes, but 1 isn't in the merged tree.
        self.assertEqual(self.conflicts("t(u(n 1), u(n 2), l)", swap(0, 1, 4), swap(1, 3, 2), replace(0, 2, "l")),
                         told((4, 1, 0), (4, 3, 0), (4, 1000, 0)))

    def test_a_node_gone_and_untouched(self):
        base = "p(u(n 1), l)"
        self.assertEqual(self.merged(base, replace(0, 1, "n 3")), "p(n 3, l)")
        self.assertEqual(self.merged(base, replace(0, 1, "n 3"), replace(1, 3, "n 4")), "p(n 3, n 4)")
        self.assertEqual(self.merged(base, lift(0, 2), number(1, 2, 7)), "p(n 7, l)")

    def test_a_node_gone_and_worked_on(self):
        base = "p(u(n 1), l)"
        self.assertEqual(self.conflicts(base, replace(0, 1, "l"), number(1, 2, 5)), told((4, 2, 0)))
        self.assertEqual(self.conflicts(base, number(0, 2, 5), replace(1, 1, "l")), told((4, 2, 0)))
        self.assertEqual(self.conflicts(base, replace(0, 2, "l"), replace(1, 1, "l")), told((4, 1, 0), (4, 1000, 0)))
        self.assertEqual(self.conflicts(base, replace(0, 1, "l"), replace(1, 2, "l")), told((4, 1, 0), (4, 2000, 0)))
        self.assertEqual(self.conflicts(base, lift(0, 3), replace(1, 2, "l")), told((4, 1, 0), (4, 2000, 0)))
        self.assertEqual(self.conflicts(base, lift(0, 2), replace(1, 2, "l")), told((4, 1, 0), (4, 2000, 0)))
        self.assertEqual(self.conflicts(base, lift(0, 1), swap(1, 1, 3)), told((4, 0, 0)))

    def test_work_undone_is_no_work(self):
        base = "p(u(n 1), l)"
        self.assertEqual(self.merged(base, replace(0, 1, "l"), number(1, 2, 5), number(1, 2, 1)), "p(l, l)")
        self.assertEqual(self.merged(base, replace(0, 1, "l"), swap(1, 2, 3), swap(1, 2, 3)), "p(l, l)")

    def test_to_change_the_roots_place_is_to_work_on_no_node(self):
        # Node 1 is side 0's root, and gone on side 1: only the place of 0's child, which side 1 changed, is lost.
        self.assertEqual(self.conflicts("p(u(n 1), l)", lift(0, 2), lift(0, 2), number(1, 2, 8)), NONE)
        self.assertEqual(self.conflicts("p(u(n 1), l)", lift(0, 1), replace(1, 1, "l")), told((4, 0, 0), (4, 2000, 0)))

    def test_a_moved_node_of_a_tree_that_is_gone(self):
        # p 0, u 1, n 2, l 3: side 1 takes 2 out of what side 0 throws away, and leaves 3 there.
        self.assertEqual(self.conflicts("p(u(n 1), l)", replace(0, 1, "l"), swap(1, 2, 3), number(1, 2, 9)), told((4, 1, 0)))

    def test_a_node_gone_on_one_side_is_merged_as_if_it_were_as_in_the_base_there(self):
        # t 0, u 1, l 2, l 3, l 4: side 0 lifts 2, so 1 is gone there; side 1 has 2 there too, and 1 with 3 below at 3's place.
        edits = [lift(0, 2), swap(1, 2, 3), swap(1, 2, 1), number(1, 1, 9)]
        self.assertEqual(made("t 0(u 1(l 2), l 3, l 4)", *edits, form(0), form(1), origin(), rules=HOLDING)[4:],
                         ["t 0(l 2, l 3, l 4)", "t 0(l 2, u 9(l 3), l 4)", [0, 0, 2, 1, 3, 4]])
        self.assertEqual(self.merged("t 0(u 1(l 2), l 3, l 4)", *edits, rules=HOLDING), "t 0(l 2, u 9(l 3), l 4)")

    def test_a_node_of_the_base_below_a_new_one(self):
        # p 0, u 1, n 2, l 3: side 0 puts u(l) at 3's place and 2 below it; side 1 sets 2's number.
        edits = [replace(0, 3, "u(l)"), swap(0, 1001, 2), number(1, 2, 6)]
        self.assertEqual(self.merged("p(u(n 1), l)", *edits), "p(u(l), u(n 6))")
        self.assertEqual(made("p(u(n 1), l)", *edits, origin())[-1], [0, 0, 1, 1001, 1000, 2])

    def test_new_nodes_of_both_sides_in_one_tree(self):
        edits = [replace(0, 2, "u(n 3)"), replace(1, 3, "p(n 4, n 5)"), number(0, 1001, 6), number(1, 2002, 7)]
        self.assertEqual(self.merged("p(u(n 1), l)", *edits), "p(u(u(n 6)), p(n 4, n 7))")
        self.assertEqual(made("p(u(n 1), l)", *edits, origin())[-1], [0, 0, 1, 1000, 1001, 2000, 2001, 2002])

    def test_the_order_and_none_twice(self):
        # t 0, t 1, n 2, n 3, n 4, t 5, n 6, n 7, n 8, p 9, p 10, n 11, n 12, n 13
        base = "t(t(n 1, n 2, n 3), t(n 4, n 5, n 6), p(p(n 7, n 8), n 9))"
        edits = [swap(0, 11, 13), lift(1, 11), number(0, 12, 3), number(0, 8, 1), number(1, 8, 2), number(0, 3, 1), number(1, 3, 9),
                 replace(0, 7, "u(l)"), replace(1, 7, "u(l)"), replace(0, 2, "l"), replace(1, 2, "l"), replace(0, 6, "n 7"),
                 replace(1, 4, "n 7"), number(0, 4, 1)]
        self.assertEqual(self.conflicts(base, *edits),
                         told((1, 3, 0), (1, 8, 0), (2, 1, 1), (2, 5, 2), (3, 11, 0), (4, 4, 0), (4, 10, 0), (4, 12, 0),
                              (4, 2000, 0), (4, 2001, 0), (4, 2002, 0)))

    def test_the_roots_place_comes_before_the_others(self):
        # p 0, t 1, n 2, n 3, n 4, l 5: both sides have another root, and 1 stands on both.
        self.assertEqual(self.conflicts("p(t(n 1, n 2, n 3), l)", replace(0, 2, "l"), replace(1, 2, "l"), lift(0, 1), lift(1, 1),
                                        lift(1, 4)), told((2, -1, 0)))
        self.assertEqual(self.conflicts("u(p(t(n 1, n 2, n 3), l))", replace(0, 3, "l"), replace(1, 3, "l"), lift(0, 2),
                                        lift(0, 2), lift(1, 1)), told((2, -1, 0), (2, 2, 1), (4, 2000, 0)))

    def test_several_nodes_worked_on_below_the_one_thrown_away(self):
        # p 0, p 1, n 2, n 3, l 4: side 0 throws 1 away, and with it what it had set itself.
        self.assertEqual(self.conflicts("p(p(n 1, n 2), l)", number(0, 2, 5), number(1, 2, 5), replace(0, 1, "l"), number(1, 3, 4)),
                         told((4, 2, 0), (4, 3, 0)))

    def test_both_sides_worked_alike_on_what_one_threw_away(self):
        self.assertEqual(self.conflicts("p(u(n 1), l)", number(0, 2, 5), number(1, 2, 5), replace(1, 1, "l")), told((4, 2, 0)))

    def test_it_changes_nothing(self):
        found = made("p(n 1, l)", number(0, 1, 5), number(1, 1, 6), conflicts(), conflicts(), form(0), form(1), form(2),
                     number(1, 1, 1), conflicts(), merge())
        self.assertEqual(found[2:], [told((1, 1, 0))] * 2 + ["p(n 5, l)", "p(n 6, l)", "p(n 1, l)", [0], NONE, "p(n 5, l)"])

    def test_conflicts_end_with_what_caused_them(self):
        self.assertEqual(made("p(n 1, l)", number(0, 1, 5), number(1, 1, 6), conflicts(), reset(0), conflicts(), merge())[2:],
                         [told((1, 1, 0)), [0], NONE, "p(n 6, l)"])

    def test_without_trees(self):
        self.assertEqual(ask(conflicts(), grammar(PLAIN), conflicts(), tree("x"), conflicts(), tree("l"), conflicts(),
                             grammar(PLAIN), conflicts()),
                         [[-5], [0, 3, 11], [-5], [-4], [-5], [0, 1], NONE, [0, 3, 11], [-5]])


if __name__ == "__main__":
    unittest.main()
