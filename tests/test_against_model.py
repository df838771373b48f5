"""Many drawn inputs, the same in each run, told alike by the program and by the model."""

import random
import unittest

from tests import lines
from tests.lines import EXAMPLE, PLAIN, ask
from tests.model import Model

SIGNS = list("()[],.=<+-*/%&|!#") + ["if", "then", "else", "1", "0", "v", "len", "at", "0.v", "1.v"]


def expression(draw, room):
    """An expression, most often a well made one, of more parts the more room there is."""
    if room <= 0:
        return draw.choice(["1", "v", "#", "0.v", "1.v", "2.w", "[]", "w", "007"])
    parts = []
    for k in range(draw.choice([1, 1, 2, 2, 3])):
        parts.append(expression(draw, draw.choice([0, room - 1, room - 2])))
    kind = draw.randrange(12)
    if kind < 4:
        return draw.choice(["+", "-", "*", "/", "%", "&", "|", "=", "<"]).join(parts)
    if kind < 6:
        return draw.choice("-!") + parts[0]
    if kind < 8:
        return "(" + parts[0] + ")"
    if kind < 9:
        return "[" + ",".join(parts) + "]"
    if kind < 10:
        return "if " + (parts * 3)[0] + " then " + (parts * 3)[1] + " else " + (parts * 3)[2]
    return draw.choice(["len", "at", "cat", "look", "drop", "has", "max", "min", "v"]) + "(" + ",".join(parts) + ")"


def spoilt(draw, text, signs):
    """The text with some bytes or signs changed."""
    for k in range(draw.choice([0, 0, 1, 1, 2])):
        place = draw.randrange(len(text) + 1)
        text = text[:place] + draw.choice(["", " "]) + draw.choice(signs + [""]) + text[place + draw.randrange(3):]
    return text


def drawn_tree(draw, room, symbol="E"):
    if symbol == "F":
        return draw.choice(["g 1", "f(g -2)", "from(n 3)", "f(from(u(l)))", "g 0"])
    if room <= 0:
        return draw.choice(["l", "n 1", "n -5", "n 0", "n 12", "of(g 1)"])
    name, count = draw.choice([("u", 1), ("p", 2), ("t", 3), ("u", 1), ("of", 0)])
    if name == "of":
        return "of(" + drawn_tree(draw, 0, "F") + ")"
    return name + "(" + ",".join(drawn_tree(draw, draw.randrange(room // 2, room)) for k in range(count)) + ")"


def drawn_call(draw, model, sides):
    """A call, most often one on nodes that are there, on one of these sides."""
    side = draw.choice(sides * 16 + [2, -1])
    nodes = [draw.choice([draw.randrange(12), 1000, 2000]) for k in (1, 2)]
    if model.trees is not None and draw.random() < 0.9:
        there = [node[3] for path, node in model.walk(model.trees[side % 2])]
        nodes = [draw.choice(there), draw.choice(there)]
        # Whole trees anew on a single side, so that its numbers are used up.
        if len(sides) == 1 and draw.random() < 0.2:
            return ("replace", side, there[0], lines.wide(draw.randrange(20, 61)))
    kind = draw.randrange(14)
    text = drawn_tree(draw, draw.choice([0, 1, 2, 3, 5]), draw.choice("EEEEF"))
    if draw.random() < 0.2:
        text = draw.choice([lines.wide(draw.randrange(20, 62)), lines.chain(draw.randrange(8, 26))])
    if kind < 4:
        return ("replace", side, nodes[0], spoilt(draw, text, list("(),ul")) if draw.random() < 0.1 else text)
    if kind < 6:
        return ("number", side, nodes[0], draw.choice([draw.randrange(-99, 99), 10 ** 18, -10 ** 18, 10 ** 18 - 1]))
    if kind < 9:
        return ("swap", side, nodes[0], nodes[1])
    if kind < 11:
        return ("lift", side, nodes[0])
    if len(sides) == 2 and draw.random() < 0.02:
        return draw.choice([("grammar", PLAIN), ("grammar", "S"), ("tree", text), ("tree", "x")])
    return ("form", draw.choice([0, 1, 2, side]))


class AgainstModel(unittest.TestCase):
    def tell(self, model, call):
        values = [list(value.encode("latin-1")) if isinstance(value, str) else value for value in call[1:]]
        told = getattr(model, call[0])(*values)
        return [told] if isinstance(told, int) else [0] + told

    def agree(self, calls):
        """Ask both, and give back what they answered."""
        model = Model()
        told = ask(*[getattr(lines, call[0])(*call[1:]) for call in calls])
        for call, answer in zip(calls, told):
            if isinstance(answer, str):
                answer = [0] + list(answer.encode())
            self.assertEqual(answer, self.tell(model, call), call)
        return told

    def test_expressions(self):
        draw = random.Random(1)
        frame = "S v > w; p S #: S { 1.v = 0; w = EXPRESSION; } q S: { w = 1; }"
        counts = {}
        for k in range(4000):
            text = spoilt(draw, expression(draw, draw.choice([0, 1, 2, 3, 5, 9])), SIGNS)
            answer = self.agree([("grammar", frame.replace("EXPRESSION", text)[:3000])])[0]
            counts[answer[0]] = counts.get(answer[0], 0) + 1
        self.assertGreater(min(counts[0], counts[-2]), 500)

    def test_rows_of_signs(self):
        draw = random.Random(2)
        for k in range(4000):
            text = "".join(draw.choice(SIGNS) + draw.choice(["", " "]) for k in range(draw.randrange(1, 7)))
            self.agree([("grammar", "S v > ; p S #: S { 1.v = 0; ? " + text + "; } q S: { }")])

    def test_grammars(self):
        draw = random.Random(3)
        counts = {}
        signs = list(";:{}()[],.=<>+-#?") + ["S", "E", "d", "v", "1", "2.", "? 1;", "E > v;", "lit", "v = 1;", "T u > ;"]
        for k in range(4000):
            answer = self.agree([("grammar", spoilt(draw, EXAMPLE, signs))])[0]
            counts[answer[0]] = counts.get(answer[0], 0) + 1
        self.assertGreater(min(counts[0], counts[-2]), 500)

    def test_trees(self):
        draw = random.Random(4)
        counts = {}
        for k in range(4000):
            text = spoilt(draw, drawn_tree(draw, draw.choice([1, 3, 4, 5, 7])), list("(),ulnpt1-0"))
            answer = self.agree([("grammar", PLAIN), ("tree", text[:3001]), ("form", 2)])[1]
            counts[answer[0]] = counts.get(answer[0], 0) + 1
        self.assertGreater(min(counts[0], counts[-4]), 500)

    def test_edits(self):
        draw = random.Random(5)
        seen = {}
        for k in range(80):
            calls = [("grammar", PLAIN), ("tree", "top(" + drawn_tree(draw, 5) + ")")]
            model = Model()
            self.tell(model, calls[0])
            self.tell(model, calls[1])
            room = 14000
            while len(calls) < 400 and room > 500:
                calls.append(drawn_call(draw, model, ([0, 1], [k % 4 // 2])[k % 2]))
                self.tell(model, calls[-1])
                room -= 5 + (len(calls[-1][-1]) if isinstance(calls[-1][-1], str) else 0)
            for answer in self.agree(calls):
                seen[answer[0]] = seen.get(answer[0], 0) + 1
        for refusal in (-4, -6, -8, -9, -10, -11, -12, -13, -14, -16):
            self.assertGreater(seen.get(refusal, 0), 20, refusal)


if __name__ == "__main__":
    unittest.main()
