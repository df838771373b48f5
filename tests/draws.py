"""Inputs drawn by a source that is handed in, so that they are the same in each run."""

from tests import lines
from tests.lines import PLAIN

SIGNS = list("()[],.=<+-*/%&|!#") + ["if", "then", "else", "1", "0", "v", "len", "at", "0.v", "1.v"]


def expression(draw, room):
    """An expression, most often a well made one, of more parts the more room there is."""
    if room <= 0:
        return draw.choice(["1", "v", "#", "0.v", "1.v", "2.w", "[]", "w", "007"])
    parts = []
    for k in range(draw.choice([1, 1, 2, 2, 3])):
        parts.append(expression(draw, draw.choice([0, room - 1, room - 2])))
    kind = draw.randrange(12)
    if kind < 4:
        return draw.choice(["+", "-", "*", "/", "%", "&", "|", "=", "<"]).join(parts)
    if kind < 6:
        return draw.choice("-!") + parts[0]
    if kind < 8:
        return "(" + parts[0] + ")"
    if kind < 9:
        return "[" + ",".join(parts) + "]"
    if kind < 10:
        return "if " + (parts * 3)[0] + " then " + (parts * 3)[1] + " else " + (parts * 3)[2]
    return draw.choice(["len", "at", "cat", "look", "drop", "has", "max", "min", "v"]) + "(" + ",".join(parts) + ")"


def spoilt(draw, text, signs):
    """The text with some bytes or signs changed."""
    for k in range(draw.choice([0, 0, 1, 1, 2])):
        place = draw.randrange(len(text) + 1)
        text = text[:place] + draw.choice(["", " "]) + draw.choice(signs + [""]) + text[place + draw.randrange(3):]
    return text


def drawn_tree(draw, room, symbol="E"):
    if symbol == "F":
        return draw.choice(["g 1", "f(g -2)", "from(n 3)", "f(from(u(l)))", "g 0"])
    if room <= 0:
        return draw.choice(["l", "n 1", "n -5", "n 0", "n 12", "of(g 1)"])
    name, count = draw.choice([("u", 1), ("p", 2), ("t", 3), ("u", 1), ("of", 0)])
    if name == "of":
        return "of(" + drawn_tree(draw, 0, "F") + ")"
    return name + "(" + ",".join(drawn_tree(draw, draw.randrange(room // 2, room)) for k in range(count)) + ")"


def drawn_call(draw, model, sides):
    """A call, most often one on nodes that are there, on one of these sides."""
    side = draw.choice(sides * 16 + [2, -1])
    nodes = [draw.choice([draw.randrange(12), 1000, 2000]) for k in (1, 2)]
    if model.trees is not None and draw.random() < 0.9:
        there = [node[3] for path, node in model.walk(model.trees[side % 2])]
        nodes = [draw.choice(there), draw.choice(there)]
        # Whole trees anew on a single side, so that its numbers are used up.
        if len(sides) == 1 and draw.random() < 0.2:
            return ("replace", side, there[0], lines.wide(draw.randrange(20, 61)))
    kind = draw.randrange(14)
    text = drawn_tree(draw, draw.choice([0, 1, 2, 3, 5]), draw.choice("EEEEF"))
    if draw.random() < 0.2:
        text = draw.choice([lines.wide(draw.randrange(20, 62)), lines.chain(draw.randrange(8, 26))])
    if kind < 4:
        return ("replace", side, nodes[0], spoilt(draw, text, list("(),ul")) if draw.random() < 0.1 else text)
    if kind < 6:
        return ("number", side, nodes[0], draw.choice([draw.randrange(-99, 99), 10 ** 18, -10 ** 18, 10 ** 18 - 1]))
    if kind < 9:
        return ("swap", side, nodes[0], nodes[1])
    if kind < 11:
        return ("lift", side, nodes[0])
    if len(sides) == 2 and draw.random() < 0.02:
        return draw.choice([("grammar", PLAIN), ("grammar", "S"), ("tree", text), ("tree", "x")])
    return ("form", draw.choice([0, 1, 2, side]))


def drawn_edit(draw, model, side, large):
    """An edit of nodes that are there; a large one, most often, adds to the tree."""
    there = model.walk(model.trees[side])
    leaves = [node[3] for path, node in there if not node[2]]
    holding = [node[3] for path, node in there if node[1] is not None]
    path, node = draw.choice(there[1:] or there)
    apart = [other[3] for place, other in there if place[:len(path)] != path and path[:len(place)] != place]
    if large and draw.random() < 0.8:
        text = draw.choice([lines.wide(draw.randrange(12, 25)), lines.chain(draw.randrange(6, 21))])
        return ("replace", side, draw.choice(leaves), text)
    return draw.choice([
        ("replace", side, draw.choice(leaves + [node[3]]), drawn_tree(draw, draw.choice([0, 1, 2]), draw.choice("EEEF"))),
        ("number", side, draw.choice(holding or [node[3]]), draw.randrange(9)),
        ("number", side, draw.choice(holding or [node[3]]), draw.randrange(9)),
        ("swap", side, node[3], draw.choice(apart or [0])),
        ("swap", side, node[3], draw.choice(apart or [0])),
        ("lift", side, node[3]),
    ])


def drawn_round(draw, model, large):
    """Calls on a tree of their own: edits of both sides, and what these come to again and again."""
    text = lines.wide(30) if large else drawn_tree(draw, draw.choice([2, 3, 4, 5]))
    yield ("tree", text)
    for k in range(draw.randrange(1, 6)):
        for side in draw.choice([[0], [1], [0, 1], [1, 0], [0, 1, 0, 1]]):
            yield drawn_edit(draw, model, side, large)
        yield from [("changes", 0), ("changes", 1), ("conflicts",), ("merge",), ("origin",), ("nodes", draw.choice([0, 1, 2, 3]))]
        if draw.random() < 0.2:
            yield draw.choice([("accept",), ("accept",), ("reset", 0), ("reset", 1), ("reset", 2), ("changes", -1)])
