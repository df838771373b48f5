"""The list of calls, and the list of what they answer."""

import unittest

from tests.lines import EXAMPLE, ask, form, grammar, lift, number, parted, replace, swap, tree
from treemerge.desk import answers

LINE = (grammar(EXAMPLE) + tree("top(add(lit 3, lit -4))") + replace(0, 2, "add(lit 8, lit 9)") + number(1, 3, 7)
        + swap(0, 1000, 3) + form(0) + form(1) + form(2) + lift(0, 9) + lift(1, 2) + form(1))


class Interface(unittest.TestCase):
    def test_calls_one_behind_another(self):
        sides = [list(text.encode()) for text in ("top(add(lit -4, add(lit 8, lit 9)))", "top(add(lit 3, lit 7))",
                                                  "top(add(lit 3, lit -4))", "top(lit 3)")]
        expected = [3, 0, 2, 3]
        expected += [2, 0, 4]
        expected += [2, 0, 1000]
        expected += [1, 0]
        expected += [1, 0]
        for side in sides[:3]:
            expected += [len(side) + 1, 0] + side
        expected += [1, -6]
        expected += [1, 0]
        expected += [len(sides[3]) + 1, 0] + sides[3]
        self.assertEqual(answers(LINE), expected)

    def test_a_refusal_is_its_number_alone(self):
        self.assertEqual(answers(form(0)), [1, -5])
        self.assertEqual(answers(tree("l")), [1, -3])
        self.assertEqual(answers(grammar("")), [1, -2])
        self.assertEqual(answers(grammar("x") + tree("") + swap(0, 0, 0)), [1, -2, 1, -3, 1, -5])

    def test_the_answer_is_a_list_of_whole_numbers(self):
        told = answers(LINE)
        self.assertIs(type(told), list)
        self.assertEqual({type(value) for value in told}, {int})

    def test_a_row_may_look_like_calls(self):
        self.assertEqual(answers([0, 4, 6, 0, 6, 0, 6, 0]), [1, -2, 1, -5])

    def test_the_list_handed_in_is_the_same_afterwards(self):
        class Watched(list):
            def refuse(self, *values):
                raise AssertionError("what is handed in was changed")
            __setitem__ = __delitem__ = __iadd__ = __imul__ = refuse
            append = extend = insert = pop = remove = clear = sort = reverse = refuse

        line = Watched(LINE)
        answers(line)
        self.assertEqual(list(line), LINE)

    def test_runs_do_not_know_of_each_other(self):
        first = answers(LINE)
        self.assertEqual(answers(form(0)), [1, -5])
        self.assertEqual(answers(tree("lit 1")), [1, -3])
        self.assertEqual(answers(LINE), first)

    def test_what_was_answered_is_not_kept(self):
        first = answers(LINE)
        kept = list(first)
        first.clear()
        self.assertEqual(answers(LINE), kept)

    def test_four_hundred_calls(self):
        line = grammar(EXAMPLE) + tree("lit 5") + form(1) * 398
        self.assertEqual(parted(answers(line))[2:], [[0, 108, 105, 116, 32, 53]] * 398)

    def test_numbers_at_the_bounds_of_what_is_handed_in(self):
        most = 10 ** 18
        for far in (-most, most):
            self.assertEqual(
                ask(grammar(EXAMPLE), tree("lit 5"), form(far), lift(far, 0), lift(0, far), number(far, far, far),
                    number(0, 0, far), swap(0, 0, far), swap(0, far, 0), replace(0, far, "lit 5"), form(0))[2:],
                [[-13], [-13], [-6], [-13], [-12], [-6], [-6], [-6], "lit 5"])

    def test_a_form_of_60_long_nodes(self):
        rules = "S > ; production12 S # : S S { } lastproducti S # : { }"
        node = "production12 -" + "9" * 18
        leaf = "lastproducti -" + "9" * 18
        text = leaf
        for k in range(23):
            text = node + "(" + leaf + ", " + text + ")"
        self.assertEqual(ask(grammar(rules), tree(text), form(2))[1:], [[0, 47], text])


if __name__ == "__main__":
    unittest.main()
