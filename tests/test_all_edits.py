"""Promise 15: what holds of all edits and merges together, over drawn edits, told by the calls alone."""

import random
import re
import unittest

from tests import lines
from tests.draws import drawn_edit, drawn_tree
from tests.lines import PLAIN, all_of_them, ask, grammar, last, tree
from tests.model import Model


def known(form, numbers):
    """A tree's root and, by its number, each node's name, the number that it holds and its children's numbers."""
    nodes = {}
    above = []
    order = iter(numbers)
    for name, value, sign in re.findall(r"([a-z]+)(?: (-?[0-9]+))?|([()])", form):
        if sign == "(":
            above.append(number)
        elif sign == ")":
            above.pop()
        else:
            number = next(order)
            nodes[number] = (name, value, [])
            if above:
                nodes[above[-1]][2].append(number)
    return numbers[0], nodes


def exchanged(call):
    """The same edit with the sides exchanged."""
    other = [value + {1: 1000, 2: -1000}.get(value // 1000, 0) for value in call[2:] if isinstance(value, int)]
    if call[0] == "number":
        other[1] = call[3]
    return (call[0], 1 - call[1], *other, *[value for value in call[2:] if isinstance(value, str)])


def mirrored(numbers):
    return [number + {1: 1000, 2: -1000}.get(number // 1000, 0) for number in numbers]


def triples(answer):
    return [tuple(answer[k:k + 3]) for k in range(1, len(answer), 3)]


class Told:
    """What the calls tell of a base and edits of both sides."""

    def __init__(self, base, edits):
        asked = [getattr(lines, call[0])(*call[1:]) for call in edits]
        found = ask(grammar(PLAIN), tree(base), *asked, *all_of_them())[len(asked) + 2:]
        self.forms = [found[0], found[3], found[6]]
        self.nodes = [found[1][1:], found[4][1:], found[7][1:]]
        self.changes = [triples(found[2]), triples(found[5])]
        self.conflicts = triples(found[8])
        self.merge, self.origin = found[9:]


def drawn_base(draw):
    base = drawn_tree(draw, draw.choice([2, 3, 4]))
    return base if last(grammar(PLAIN), tree(base))[0] == 0 else drawn_base(draw)


def drawn_edits(draw, base, counts, large=False):
    """Edits of both sides, as many of each as told, in any order."""
    model = Model()
    model.grammar(list(PLAIN.encode()))
    model.tree(list(base.encode()))
    sides = [0] * counts[0] + [1] * counts[1]
    draw.shuffle(sides)
    edits = []
    for side in sides:
        edits.append(drawn_edit(draw, model, side, large))
        values = [list(value.encode()) if isinstance(value, str) else value for value in edits[-1][1:]]
        getattr(model, edits[-1][0])(*values)
    return edits


class AllEdits(unittest.TestCase):
    def check_merged(self, told):
        """All that a side has changed is in the merged tree as it is on that side."""
        root, nodes = known(told.merge, told.origin[1:])
        self.assertEqual(last(grammar(PLAIN), tree(told.merge)), [0, len(nodes)])
        for side in (0, 1):
            own_root, own = known(told.forms[side], told.nodes[side])
            for kind, node, place in told.changes[side]:
                if (kind, node) == (2, -1):
                    self.assertEqual(root, own_root)
                elif kind == 1:
                    self.assertEqual(nodes[node][1], own[node][1])
                elif kind == 2:
                    self.assertEqual(nodes[node][2][place - 1], own[node][2][place - 1])
                elif kind == 4:
                    self.assertEqual(nodes[node], own[node])

    def test_without_conflicts(self):
        draw = random.Random(15)
        seen = {"merged": 0, "both": 0, "too large": 0, "conflicts": 0}
        for k in range(3000):
            large = k % 10 == 0
            base = lines.wide(30) if large else drawn_base(draw)
            edits = drawn_edits(draw, base, (draw.randrange(1, 4), draw.randrange(1, 4)), large)
            told = Told(base, edits)
            if told.conflicts:
                seen["conflicts"] += 1
                self.assertEqual([told.merge, told.origin], [[-17], [-17]])
                continue
            other = Told(base, [exchanged(call) for call in edits])
            self.assertEqual(other.nodes[:2], [mirrored(told.nodes[1]), mirrored(told.nodes[0])])
            self.assertEqual((other.conflicts, other.merge), ([], told.merge))
            self.assertEqual(other.origin, mirrored(told.origin))
            if told.merge == [-9]:
                seen["too large"] += 1
                continue
            seen["merged"] += 1
            seen["both"] += bool(told.changes[0] and told.changes[1])
            self.check_merged(told)
        self.assertGreater(seen["both"], 500)
        self.assertGreater(seen["conflicts"], 500)
        self.assertGreater(seen["too large"], 20)

    def test_one_side_has_changed_nothing(self):
        draw = random.Random(16)
        for k in range(1000):
            base = drawn_base(draw)
            side = k % 2
            edits = drawn_edits(draw, base, [(8, 0), (0, 8)][side])
            told = Told(base, edits)
            self.assertEqual((told.conflicts, told.changes[1 - side]), ([], []))
            self.assertEqual((told.merge, told.origin), (told.forms[side], [0] + told.nodes[side]))

    def test_one_side_has_changed_all_back(self):
        draw = random.Random(17)
        for k in range(300):
            base = drawn_base(draw)
            side = k % 2
            edits = drawn_edits(draw, base, (4, 4)) + [("reset", 1 - side)]
            told = Told(base, edits)
            self.assertEqual((told.conflicts, told.changes[1 - side]), ([], []))
            self.assertEqual((told.merge, told.origin), (told.forms[side], [0] + told.nodes[side]))


if __name__ == "__main__":
    unittest.main()
