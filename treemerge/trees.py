"""Trees: how they are read off texts, made anew, measured and written.

A tree and its nodes aren't changed once they are made, so that several trees
may share nodes; what edits a tree makes another one.
"""

from treemerge.tokens import Reader, Unreadable

MOST_NODES = 60
MOST_LEVELS = 24


class Node:
    """A node: its production, the number that it holds or None, and its children's numbers."""

    def __init__(self, production, value, children):
        self.production = production
        self.value = value
        self.children = children


class Tree:
    """A tree: its root's number, and its nodes by their numbers, in their order."""

    def __init__(self, root, nodes):
        self.root = root
        self.nodes = nodes


def symbol_of(tree, number):
    return tree.nodes[number].production.left


def read_tree(text, grammar, first):
    """The tree of the grammar that the text is, its nodes numbered from first on."""
    reader = Reader(text)
    nodes = {}
    # The nodes whose brackets haven't ended yet, so those above the node that comes.
    above = []
    done = False
    while not done:
        if len(nodes) == MOST_NODES or len(above) == MOST_LEVELS:
            raise Unreadable()
        number = first + len(nodes)
        nodes[number] = read_node(reader, grammar)
        if above:
            nodes[above[-1]].children.append(number)
        if reader.skip("("):
            above.append(number)
        else:
            done = end_brackets(reader, above)
    reader.take("end")
    check_children(nodes)
    return Tree(first, nodes)


def read_node(reader, grammar):
    """The node that comes now, still without its children."""
    production = grammar.productions.get(reader.take("small"))
    value = read_value(reader)
    if production is None or production.holds_number != (value is not None):
        raise Unreadable()
    return Node(production, value, [])


def read_value(reader):
    if reader.skip("-"):
        return -reader.take("number")
    if reader.kind() == "number":
        return reader.take("number")
    return None


def end_brackets(reader, above):
    """Pass what stands between a node and the one that comes behind it; tell whether none can come."""
    while above and reader.skip(")"):
        above.pop()
    if above:
        reader.take(",")
    return not above


def check_children(nodes):
    for node in nodes.values():
        symbols = [nodes[child].production.left for child in node.children]
        if symbols != node.production.children:
            raise Unreadable()


def rebuilt(root, nodes, instead):
    """The tree of these nodes in which, wherever a key of instead stood, what it leads to stands."""
    kept = {}
    new_root = instead.get(root, root)
    waiting = [new_root]
    while waiting:
        number = waiting.pop()
        node = nodes[number]
        children = [instead.get(child, child) for child in node.children]
        kept[number] = Node(node.production, node.value, children)
        for child in reversed(children):
            waiting.append(child)
    return Tree(new_root, kept)


def with_value(tree, number, value):
    """The tree in which this node holds this value."""
    nodes = dict(tree.nodes)
    node = nodes[number]
    nodes[number] = Node(node.production, value, node.children)
    return Tree(tree.root, nodes)


def renumbered(tree):
    """The tree with its nodes numbered from 0 on, in their order."""
    numbers = dict([(number, k) for k, number in enumerate(tree.nodes)])
    nodes = {}
    for number, node in tree.nodes.items():
        children = [numbers[child] for child in node.children]
        nodes[numbers[number]] = Node(node.production, node.value, children)
    return Tree(0, nodes)


def parent_of(tree, number):
    """The number of the node's parent, None of the root."""
    for other, node in tree.nodes.items():
        if number in node.children:
            return other
    return None


def is_within(tree, number, other):
    """Whether the node is the other one or stands below it."""
    above = number
    while above is not None and above != other:
        above = parent_of(tree, above)
    return above == other


def levels_of(tree):
    """How many levels the tree has; its order has each node behind its parent."""
    levels = {tree.root: 1}
    for number, node in tree.nodes.items():
        for child in node.children:
            levels[child] = levels[number] + 1
    return max(levels.values())


def is_too_large(tree):
    return len(tree.nodes) > MOST_NODES or levels_of(tree) > MOST_LEVELS


def form_of(tree, number):
    """The form of a node's tree, as a text. A tree's few levels bound how deep this calls itself."""
    node = tree.nodes[number]
    written = node.production.name
    if node.value is not None:
        written += " " + str(node.value)
    if node.children:
        forms = ", ".join([form_of(tree, child) for child in node.children])
        written += "(" + forms + ")"
    return written
