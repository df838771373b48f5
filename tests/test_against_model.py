"""Many drawn inputs, the same in each run, told alike by the program and by the model."""

import random
import unittest

from tests import lines
from tests.draws import SIGNS, drawn_call, drawn_round, drawn_tree, expression, spoilt
from tests.lines import EXAMPLE, PLAIN, ask
from tests.model import Model


class AgainstModel(unittest.TestCase):
    def tell(self, model, call):
        values = [list(value.encode("latin-1")) if isinstance(value, str) else value for value in call[1:]]
        told = getattr(model, call[0])(*values)
        return [told] if isinstance(told, int) else [0] + told

    def agree(self, calls, expected=None):
        """Ask both, unless the model was asked before, and give back what they answered."""
        model = Model()
        told = ask(*[getattr(lines, call[0])(*call[1:]) for call in calls])
        for k, answer in enumerate(told):
            if isinstance(answer, str):
                answer = [0] + list(answer.encode())
            self.assertEqual(answer, expected[k] if expected else self.tell(model, calls[k]), calls[k])
        return told

    def test_expressions(self):
        draw = random.Random(1)
        frame = "S v > w; p S #: S { 1.v = 0; w = EXPRESSION; } q S: { w = 1; }"
        counts = {}
        for k in range(4000):
            text = spoilt(draw, expression(draw, draw.choice([0, 1, 2, 3, 5, 9])), SIGNS)
            answer = self.agree([("grammar", frame.replace("EXPRESSION", text)[:3000])])[0]
            counts[answer[0]] = counts.get(answer[0], 0) + 1
        self.assertGreater(min(counts[0], counts[-2]), 500)

    def test_rows_of_signs(self):
        draw = random.Random(2)
        for k in range(4000):
            text = "".join(draw.choice(SIGNS) + draw.choice(["", " "]) for k in range(draw.randrange(1, 7)))
            self.agree([("grammar", "S v > ; p S #: S { 1.v = 0; ? " + text + "; } q S: { }")])

    def test_grammars(self):
        draw = random.Random(3)
        counts = {}
        signs = list(";:{}()[],.=<>+-#?") + ["S", "E", "d", "v", "1", "2.", "? 1;", "E > v;", "lit", "v = 1;", "T u > ;"]
        for k in range(4000):
            answer = self.agree([("grammar", spoilt(draw, EXAMPLE, signs))])[0]
            counts[answer[0]] = counts.get(answer[0], 0) + 1
        self.assertGreater(min(counts[0], counts[-2]), 500)

    def test_trees(self):
        draw = random.Random(4)
        counts = {}
        for k in range(4000):
            text = spoilt(draw, drawn_tree(draw, draw.choice([1, 3, 4, 5, 7])), list("(),ulnpt1-0"))
            answer = self.agree([("grammar", PLAIN), ("tree", text[:3001]), ("form", 2)])[1]
            counts[answer[0]] = counts.get(answer[0], 0) + 1
        self.assertGreater(min(counts[0], counts[-4]), 500)

    def test_edits(self):
        draw = random.Random(5)
        seen = {}
        for k in range(80):
            calls = [("grammar", PLAIN), ("tree", "top(" + drawn_tree(draw, 5) + ")")]
            model = Model()
            self.tell(model, calls[0])
            self.tell(model, calls[1])
            room = 14000
            while len(calls) < 400 and room > 500:
                calls.append(drawn_call(draw, model, ([0, 1], [k % 4 // 2])[k % 2]))
                self.tell(model, calls[-1])
                room -= 5 + (len(calls[-1][-1]) if isinstance(calls[-1][-1], str) else 0)
            for answer in self.agree(calls):
                seen[answer[0]] = seen.get(answer[0], 0) + 1
        for refusal in (-4, -6, -8, -9, -10, -11, -12, -13, -14, -16):
            self.assertGreater(seen.get(refusal, 0), 20, refusal)

    def test_merges(self):
        draw = random.Random(6)
        seen = {}
        kinds = {}
        for k in range(300):
            model = Model()
            calls = [("grammar", PLAIN)]
            expected = [self.tell(model, calls[0])]
            for k in range(5):
                for call in drawn_round(draw, model, k == 0):
                    calls.append(call)
                    expected.append(self.tell(model, call))
            for call, answer in zip(calls, self.agree(calls, expected)):
                key = (call[0], 0 if isinstance(answer, str) else answer[0])
                seen[key] = seen.get(key, 0) + 1
                if call[0] == "conflicts":
                    for kind in set(answer[1::3]):
                        kinds[kind] = kinds.get(kind, 0) + 1
        for call in ("merge", "origin", "accept"):
            for refusal in (0, -9, -17):
                self.assertGreater(seen.get((call, refusal), 0), 20, (call, refusal))
        for kind in (1, 2, 3, 4):
            self.assertGreater(kinds[kind], 100, kind)


if __name__ == "__main__":
    unittest.main()
