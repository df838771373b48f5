"""Lists of calls, written as they are handed in, and what is answered, parted by calls."""

from treemerge.desk import answers

EXAMPLE = """S > v; E d > v;
top S: E { v = 1.v; 1.d = 0; }
lit E #: { v = # + d; }
add E: E E { v = 1.v + 2.v; 1.d = d + 1; 2.d = d + 1; ? v < 100; }
"""
# Productions without attributes: a leaf, a leaf with a number, and nodes of one, two and three children.
PLAIN = """S > ; E > ; F > ;
top S: E { } two S: E F { }
l E: { } n E #: { } u E: E { } p E: E E { } t E: E E E { } of E: F { }
g F #: { } f F: F { } from F: E { }
"""


def row(text):
    values = list(text.encode("latin-1")) if isinstance(text, str) else list(text)
    return [len(values)] + values


def grammar(text):
    return [0] + row(text)


def tree(text):
    return [1] + row(text)


def replace(side, node, text):
    return [2, side, node] + row(text)


def number(side, node, value):
    return [3, side, node, value]


def swap(side, node, other):
    return [4, side, node, other]


def lift(side, node):
    return [5, side, node]


def form(which):
    return [6, which]


def nodes(which):
    return [7, which]


def changes(side):
    return [8, side]


def conflicts():
    return [9]


def merge():
    return [10]


def origin():
    return [11]


def accept():
    return [12]


def reset(side):
    return [13, side]


def parted(told):
    found = []
    place = 0
    while place < len(told):
        end = place + 1 + told[place]
        found.append(told[place + 1:end])
        place = end
    if place != len(told):
        raise AssertionError("the last count passes the end")
    return found


def ask(*calls):
    """Each call's answer; forms are told as Python's texts."""
    asked = [value for call in calls for value in call]
    if not 1 <= len(calls) <= 400 or len(asked) > 16000:
        raise AssertionError("outside the interface's bounds")
    found = parted(answers(asked))
    if len(found) != len(calls):
        raise AssertionError("not one answer a call")
    for k, call in enumerate(calls):
        if call[0] in (6, 10) and found[k][0] == 0:
            found[k] = bytes(found[k][1:]).decode("ascii")
    return found


def last(*calls):
    return ask(*calls)[-1]


def is_grammar(text):
    """What the call grammar answers of this text."""
    return last(grammar(text))


def made(base, *calls, rules=PLAIN):
    """The answers of calls on this base."""
    found = ask(grammar(rules), tree(base), *calls)
    if found[1][0] != 0:
        raise AssertionError("the base is no tree")
    return found[2:]


def chain(levels, leaf="l", node="u"):
    """A tree of that many levels, one node on each."""
    return (node + "(") * (levels - 1) + leaf + ")" * (levels - 1)


def wide(nodes):
    """A tree of that many nodes on as few levels as can be."""
    root = []
    waiting = [root]
    count = 1
    while count < nodes:
        children = [[] for k in range(min(3, nodes - count))]
        waiting.pop(0).extend(children)
        waiting.extend(children)
        count += len(children)
    return written(root)


def written(node):
    name = ("l", "u", "p", "t")[len(node)]
    return name + ("(" + ",".join(written(child) for child in node) + ")" if node else "")


def told(*things):
    """What changes or conflicts answers of these, three numbers each."""
    return [0] + [value for thing in things for value in thing]


def all_of_them(side=None):
    """Calls that tell all there is to know, or all of one side."""
    if side is not None:
        return [form(side), nodes(side), changes(side)]
    return [call for which in (0, 1) for call in all_of_them(which)] + [form(2), nodes(2), conflicts(), merge(), origin()]
