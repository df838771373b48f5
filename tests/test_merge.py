"""Promises 11, 12 and 13: the calls merge, origin and accept."""

import unittest

from tests.lines import EXAMPLE, PLAIN, accept, all_of_them, ask, chain, changes, conflicts, form, grammar, lift, made, merge, nodes
from tests.lines import number, origin, replace, reset, swap, told, tree, wide

NONE = [0]


def of_nodes(count):
    """A base and edits without conflicts that make a merged tree of that many nodes, while neither side's is so large."""
    return "p(l, l)", [replace(0, 1, wide(29)), replace(1, 2, wide(count - 30))]


def of_levels(count):
    """The same of levels: p 0, u 1, l 2 and a chain, to whose end side 0 moves 1, below which side 1 puts another chain."""
    return "p(u(l), " + chain(10) + ")", [swap(0, 1, 12), replace(1, 2, chain(count - 11))]


class Merge(unittest.TestCase):
    def test_the_documents_example(self):
        self.assertEqual(made("add(lit 1, lit 2)", number(0, 1, 5), replace(1, 2, "add(lit 8, lit 9)"), merge(), origin(),
                              rules=EXAMPLE)[2:], ["add(lit 5, add(lit 8, lit 9))", [0, 0, 1, 2000, 2001, 2002]])

    def test_nothing_changed(self):
        self.assertEqual(made("p(u(n -1), l)", merge(), origin()), ["p(u(n -1), l)", [0, 0, 1, 2, 3]])

    def test_the_form(self):
        rules = "S > ; m S #: S S { } k S: { } e S #: { }"
        self.assertEqual(made("m 01( k ,m -0(k,e -007))", number(0, 0, -10 ** 18 + 1), number(1, 4, 10 ** 18 - 1), merge(),
                              rules=rules)[2], "m -999999999999999999(k, m 0(k, e 999999999999999999))")

    def test_one_side_alone(self):
        # t 0, n 1, u 2, n 3, p 4, n 5, n 6
        base = "t(n 1, u(n 2), p(n 3, n 4))"
        for side in (0, 1):
            for edits in ([number(side, 3, 9)], [swap(side, 1, 4)], [lift(side, 3)], [lift(side, 4)], [replace(side, 2, "u(l)")],
                          [replace(side, 0, "g 1")], [swap(side, 3, 4), number(side, 6, 0), lift(side, 2)]):
                found = made(base, *edits, form(side), nodes(side), merge(), origin(), conflicts())[len(edits):]
                self.assertEqual(found[2:], [found[0], found[1], NONE])

    def test_the_order_of_the_nodes(self):
        # Side 0 exchanges 1 and 4, side 1 exchanges 5 and 6 and lifts 3.
        found = made("t(n 1, u(n 2), p(n 3, n 4))", swap(0, 1, 4), swap(1, 5, 6), lift(1, 3), merge(), origin())
        self.assertEqual(found[3:], ["t(p(n 4, n 3), n 2, n 1)", [0, 0, 4, 6, 5, 3, 1]])

    def test_60_and_61_nodes(self):
        base, edits = of_nodes(60)
        found = made(base, *edits, conflicts(), merge(), origin(), accept(), form(2))
        self.assertEqual(found[2], NONE)
        self.assertEqual(found[3], found[6])
        self.assertEqual(found[3].count("l") + found[3].count("u") + found[3].count("p") + found[3].count("t"), 60)
        self.assertEqual(found[4], [0, 0] + list(range(1000, 1029)) + list(range(2000, 2030)))
        self.assertEqual(found[5], [0, 60])
        base, edits = of_nodes(61)
        self.assertEqual(made(base, *edits, conflicts(), merge(), origin(), accept(), form(2))[2:],
                         [NONE, [-9], [-9], [-9], base])

    def test_24_and_25_levels(self):
        base, edits = of_levels(24)
        found = made(base, *edits, conflicts(), merge(), origin(), accept(), form(2))
        self.assertEqual(found[2:4], [NONE, "p(l, " + chain(23) + ")"])
        self.assertEqual(found[4], [0, 0] + [12] + list(range(3, 12)) + [1] + list(range(2000, 2013)))
        self.assertEqual(found[5:], [[0, 25], "p(l, " + chain(23) + ")"])
        base, edits = of_levels(25)
        self.assertEqual(made(base, *edits, conflicts(), merge(), origin(), accept(), form(2))[2:],
                         [NONE, [-9], [-9], [-9], base])

    def test_conflicts_refuse_all_three(self):
        for edits in ([number(0, 2, 5), number(1, 2, 6)], [replace(0, 1, "l"), replace(1, 1, "l")], [lift(0, 1), lift(1, 3)],
                      [replace(0, 1, "l"), number(1, 2, 5)], [lift(0, 2), swap(1, 2, 3)]):
            found = made("p(u(n 1), l)", *edits, conflicts(), merge(), origin(), accept())
            self.assertGreater(len(found[2]), 1)
            self.assertEqual(found[3:], [[-17]] * 3)

    def test_conflicts_are_looked_at_before_the_size(self):
        for base, edits in (of_nodes(61), of_levels(25)):
            base = "p(n 1, " + base + ")"
            edits = [[call[0], call[1], call[2] + 2] + call[3:] for call in edits]
            for call in edits:
                if call[0] == 4:
                    call[3] += 2
            self.assertEqual(made(base, *edits, merge(), origin(), accept())[2:], [[-9]] * 3)
            self.assertEqual(made(base, *edits, number(0, 1, 5), number(1, 1, 6), conflicts(), merge(), origin(), accept())[4:],
                             [told((1, 1, 0)), [-17], [-17], [-17]])

    def test_without_trees(self):
        calls = [merge(), origin(), accept()]
        self.assertEqual(ask(*calls, grammar(PLAIN), *calls, tree("x"), *calls),
                         [[-5]] * 3 + [[0, 3, 11]] + [[-5]] * 3 + [[-4]] + [[-5]] * 3)
        self.assertEqual(ask(grammar(PLAIN), tree("l"), number(0, 0, 1), grammar(PLAIN), *calls)[4:], [[-5]] * 3)

    def test_refused_calls_change_nothing(self):
        everything = all_of_them()
        clashing = ("p(u(n 1), l)", [replace(0, 1, "l"), number(1, 2, 5), replace(1, 3, "l")])
        for (base, edits), refusal, given in ((of_nodes(61), -9, [[0, 1029], [0, 2031]]), (of_levels(25), -9, [[0, 1000], [0, 2014]]),
                                              (clashing, -17, [[0, 1001], [0, 2001]])):
            found = made(base, *edits, *everything, merge(), origin(), accept(), *everything, replace(0, 0, "l"), replace(1, 0, "l"))
            found = found[len(edits):]
            self.assertEqual(found[len(everything):][:3], [[refusal]] * 3)
            self.assertEqual(found[len(everything) + 3:-2], found[:len(everything)])
            # The refused call gave no numbers back, and the next ones are given as if it hadn't been.
            self.assertEqual(found[-2:], given)

    def test_merge_and_origin_change_nothing(self):
        edits = [replace(0, 1, "u(l)"), number(1, 3, 8)]
        everything = all_of_them()
        found = made("p(l, u(n 1))", *edits, *everything, merge(), origin(), *everything, replace(0, 0, "l"))
        self.assertEqual(found[2:2 + len(everything)], found[4 + len(everything):-1])
        self.assertEqual(found[-1], [0, 1002])


class Accept(unittest.TestCase):
    def test_the_merged_tree_is_all_three(self):
        found = made("add(lit 1, lit 2)", number(0, 1, 5), replace(1, 2, "add(lit 8, lit 9)"), accept(), form(0), form(1),
                     form(2), nodes(0), nodes(1), nodes(2), changes(0), changes(1), conflicts(), merge(), origin(), rules=EXAMPLE)
        merged = "add(lit 5, add(lit 8, lit 9))"
        order = [0, 0, 1, 2, 3, 4]
        self.assertEqual(found[2:], [[0, 5], merged, merged, merged, order, order, order, NONE, NONE, NONE, merged, order])

    def test_the_nodes_are_numbered_from_0_in_their_order(self):
        # p 0, u 1, n 2, n 3: behind the swap n 3 is 1, u 1 is 2, n 2 is 3.
        found = made("p(u(n 1), n 2)", swap(0, 1, 3), origin(), accept(), nodes(0), number(0, 1, 7), number(1, 3, 8), form(0),
                     form(1), form(2))
        self.assertEqual(found[1:], [[0, 0, 3, 1, 2], [0, 4], [0, 0, 1, 2, 3], [0], [0], "p(n 7, u(n 1))", "p(n 2, u(n 8))",
                                     "p(n 2, u(n 1))"])

    def test_numbers_of_before_call_nothing_any_more(self):
        self.assertEqual(made("p(n 1, n 2)", replace(0, 1, "n 3"), replace(1, 2, "n 4"), accept(), number(0, 1000, 1),
                              number(1, 2000, 1), number(0, 3, 1), number(0, 1, 5), form(0)),
                         [[0, 1000], [0, 2000], [0, 3], [-6], [-6], [-6], [0], "p(n 5, n 4)"])

    def test_a_smaller_tree(self):
        self.assertEqual(made("p(u(n 1), n 2)", lift(1, 2), lift(1, 2), accept(), nodes(2), number(0, 2, 1), number(0, 0, 4),
                              merge()), [[0], [0], [0, 1], [0, 0], [-6], [0], "n 4"])

    def test_a_root_of_another_symbol(self):
        self.assertEqual(made("p(l, l)", replace(0, 0, "two(n 1, g 2)"), accept(), form(1), number(1, 2, 5), merge()),
                         [[0, 1000], [0, 3], "two(n 1, g 2)", [0], "two(n 1, g 5)"])

    def test_new_nodes_are_numbered_anew(self):
        self.assertEqual(made("p(l, l)", replace(0, 1, "u(l)"), replace(1, 2, "u(l)"), accept(), replace(0, 1, "l"),
                              replace(1, 3, "l"), nodes(0), nodes(1), merge(), accept(), replace(1, 1, "l"), replace(0, 1, "u(l)")),
                         [[0, 1000], [0, 2000], [0, 5], [0, 1000], [0, 2000], [0, 0, 1000, 3, 4], [0, 0, 1, 2, 2000], "p(l, l)",
                          [0, 3], [0, 2000], [0, 1000]])

    def test_numbers_that_were_used_up_are_given_again(self):
        calls = [replace(0, 0, wide(60))] + [replace(0, 1000 + 60 * k, wide(60)) for k in range(14)]
        found = made("l", *calls, replace(0, 1840, "l"), accept(), replace(0, 0, wide(60)), accept(), replace(1, 0, "l"))
        self.assertEqual(found[15:], [[-16], [0, 60], [0, 1000], [0, 60], [0, 2000]])

    def test_nothing_changed(self):
        self.assertEqual(made("p(u(n 1), l)", accept(), accept(), form(0), nodes(1), changes(0), replace(0, 3, "l")),
                         [[0, 4], [0, 4], "p(u(n 1), l)", [0, 0, 1, 2, 3], NONE, [0, 1000]])

    def test_what_it_was_before_is_forgotten(self):
        # The number was 1 in the base before: set to it again it's a change of the base that is 5 now.
        self.assertEqual(made("p(n 1, l)", number(0, 1, 5), accept(), number(1, 1, 1), changes(1), merge(), reset(1), form(1)),
                         [[0], [0, 3], [0], told((1, 1, 0)), "p(n 1, l)", [0], "p(n 5, l)"])

    def test_the_sides_stay_apart_behind_it(self):
        self.assertEqual(made("p(n 1, n 2)", number(0, 1, 5), accept(), number(0, 1, 6), swap(1, 1, 2), form(0), form(1), form(2),
                              merge(), accept(), form(0), form(1), form(2)),
                         [[0], [0, 3], [0], [0], "p(n 6, n 2)", "p(n 2, n 5)", "p(n 5, n 2)", "p(n 2, n 6)", [0, 3]]
                         + ["p(n 2, n 6)"] * 3)

    def test_refused_until_the_conflict_is_gone(self):
        self.assertEqual(made("n 1", number(0, 0, 5), number(1, 0, 6), accept(), form(2), number(1, 0, 5), accept(), form(2)),
                         [[0], [0], [-17], "n 1", [0], [0, 1], "n 5"])


if __name__ == "__main__":
    unittest.main()
