"""The list of calls, and the list of what they answer."""

import unittest

from tests.lines import EXAMPLE, accept, ask, changes, conflicts, form, grammar, lift, merge, nodes, number, origin, parted
from tests.lines import replace, reset, swap, tree
from treemerge.desk import answers

LINE = (grammar(EXAMPLE) + tree("top(add(lit 3, lit -4))") + replace(0, 2, "add(lit 8, lit 9)") + number(1, 3, 7)
        + swap(0, 1000, 3) + form(0) + form(1) + form(2) + lift(0, 9) + lift(1, 2) + form(1))
# The other calls, on what LINE left: side 0 is 0 1 3 1000 1001 1002, side 1 is 0 2.
ON = (nodes(0) + nodes(1) + nodes(2) + changes(0) + changes(1) + conflicts() + merge() + origin() + accept() + reset(1)
      + merge() + origin() + accept() + nodes(2) + number(1, 2, 5) + reset(1) + merge())


class Interface(unittest.TestCase):
    def test_calls_one_behind_another(self):
        sides = [list(text.encode()) for text in ("top(add(lit -4, add(lit 8, lit 9)))", "top(add(lit 3, lit 7))",
                                                  "top(add(lit 3, lit -4))", "top(lit 3)")]
        expected = [3, 0, 2, 3]
        expected += [2, 0, 4]
        expected += [2, 0, 1000]
        expected += [1, 0]
        expected += [1, 0]
        for side in sides[:3]:
            expected += [len(side) + 1, 0] + side
        expected += [1, -6]
        expected += [1, 0]
        expected += [len(sides[3]) + 1, 0] + sides[3]
        self.assertEqual(answers(LINE), expected)

    def test_the_other_calls_one_behind_another(self):
        merged = list(b"top(add(lit -4, add(lit 8, lit 9)))")
        expected = [7, 0, 0, 1, 3, 1000, 1001, 1002]
        expected += [3, 0, 0, 2]
        expected += [5, 0, 0, 1, 2, 3]
        expected += [19, 0, 2, 1, 1, 2, 1, 2, 3, 2, 0, 4, 1000, 0, 4, 1001, 0, 4, 1002, 0]
        expected += [10, 0, 2, 0, 1, 3, 1, 0, 3, 3, 0]
        expected += [13, 0, 4, 1, 0, 4, 1000, 0, 4, 1001, 0, 4, 1002, 0]
        expected += [1, -17, 1, -17, 1, -17]
        expected += [1, 0]
        expected += [len(merged) + 1, 0] + merged
        expected += [7, 0, 0, 1, 3, 1000, 1001, 1002]
        expected += [2, 0, 6]
        expected += [7, 0, 0, 1, 2, 3, 4, 5]
        expected += [1, 0]
        expected += [1, 0]
        expected += [len(merged) + 1, 0] + merged
        self.assertEqual(answers(LINE + ON), answers(LINE) + expected)

    def test_a_refusal_is_its_number_alone(self):
        for call in (nodes(9), changes(9), conflicts(), merge(), origin(), accept(), reset(9)):
            self.assertEqual(answers(call), [1, -5])
        self.assertEqual(answers(form(0)), [1, -5])
        self.assertEqual(answers(tree("l")), [1, -3])
        self.assertEqual(answers(grammar("")), [1, -2])
        self.assertEqual(answers(grammar("x") + tree("") + swap(0, 0, 0)), [1, -2, 1, -3, 1, -5])

    def test_the_answer_is_a_list_of_whole_numbers(self):
        told = answers(LINE + ON)
        self.assertIs(type(told), list)
        self.assertEqual({type(value) for value in told}, {int})

    def test_a_row_may_look_like_calls(self):
        self.assertEqual(answers([0, 4, 6, 0, 6, 0, 6, 0]), [1, -2, 1, -5])

    def test_the_list_handed_in_is_the_same_afterwards(self):
        class Watched(list):
            def refuse(self, *values):
                raise AssertionError("what is handed in was changed")
            __setitem__ = __delitem__ = __iadd__ = __imul__ = refuse
            append = extend = insert = pop = remove = clear = sort = reverse = refuse

        line = Watched(LINE + ON)
        answers(line)
        self.assertEqual(list(line), LINE + ON)

    def test_runs_do_not_know_of_each_other(self):
        first = answers(LINE + ON)
        self.assertEqual(answers(form(0)), [1, -5])
        self.assertEqual(answers(tree("lit 1")), [1, -3])
        self.assertEqual(answers(LINE + ON), first)

    def test_what_was_answered_is_not_kept(self):
        first = answers(LINE + ON)
        kept = list(first)
        first.clear()
        self.assertEqual(answers(LINE + ON), kept)

    def test_four_hundred_calls(self):
        line = grammar(EXAMPLE) + tree("lit 5") + form(1) * 398
        self.assertEqual(parted(answers(line))[2:], [[0, 108, 105, 116, 32, 53]] * 398)

    def test_four_hundred_calls_of_all_kinds(self):
        rounds = []
        expected = []
        for k in range(33):
            rounds += [replace(0, 1, "lit 7"), number(1, 2, k), changes(0), changes(1), conflicts(), merge(), origin(), reset(0),
                       replace(0, 1, "lit 3"), accept(), nodes(2), form(1)]
            expected += [[0, 1000], [0], [0, 2, 0, 1, 3, 1, 0, 4, 1000, 0], [0, 1, 2, 0], [0], "add(lit 7, lit %d)" % k,
                         [0, 0, 1000, 2], [0], [0, 1001], [0, 3], [0, 0, 1, 2], "add(lit 3, lit %d)" % k]
        found = ask(grammar(EXAMPLE), tree("add(lit 3, lit -4)"), *rounds, swap(0, 1, 2), lift(0, 2))
        self.assertEqual(len(found), 400)
        self.assertEqual(found[2:], expected + [[0], [0]])

    def longest_form(self):
        """A grammar and a tree of 60 nodes, all of the longest names and numbers: no form is longer, and no answer either."""
        rules = "S > ; threechildre S # : S S S { } twochildrens S # : S S { } lastproducti S # : { }"
        value = " -" + "9" * 18
        leaf = "lastproducti" + value
        text = "twochildrens" + value + "(" + leaf + ", " + leaf + ")"
        for k in range(19):
            text = "threechildre" + value + "(" + leaf + ", " + text + ", " + leaf + ")"
        return rules, text

    def test_four_hundred_calls_with_the_longest_answers(self):
        rules, text = self.longest_form()
        expected = [3, 0, 1, 3, 2, 0, 60] + ([2039, 0] + list(text.encode())) * 398
        self.assertEqual(len(expected), 811927)
        line = grammar(rules) + tree(text)
        self.assertEqual(answers(line + form(0) * 100 + form(2) * 98 + merge() * 200), expected)

    def test_answers_that_pass_a_million_numbers_together(self):
        # 400 calls can't, as the test above shows: so these are some more.
        rules, text = self.longest_form()
        told = answers(grammar(rules) + tree(text) + (form(1) + merge()) * 250)
        self.assertEqual(len(told), 7 + 500 * 2040)
        self.assertGreater(len(told), 1000000)
        self.assertEqual(told[7:], ([2039, 0] + list(text.encode())) * 500)

    def test_numbers_at_the_bounds_of_what_is_handed_in(self):
        most = 10 ** 18
        for far in (-most, most):
            self.assertEqual(
                ask(grammar(EXAMPLE), tree("lit 5"), form(far), lift(far, 0), lift(0, far), number(far, far, far),
                    number(0, 0, far), swap(0, 0, far), swap(0, far, 0), replace(0, far, "lit 5"), form(0))[2:],
                [[-13], [-13], [-6], [-13], [-12], [-6], [-6], [-6], "lit 5"])

    def test_a_form_of_long_nodes(self):
        rules = "S > ; production12 S # : S S { } lastproducti S # : { }"
        node = "production12 -" + "9" * 18
        leaf = "lastproducti -" + "9" * 18
        text = leaf
        for k in range(23):
            text = node + "(" + leaf + ", " + text + ")"
        self.assertEqual(ask(grammar(rules), tree(text), form(2))[1:], [[0, 47], text])


if __name__ == "__main__":
    unittest.main()
