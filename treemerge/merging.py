"""The merged tree of both sides, and the conflicts where what they changed can't both be had.

What is merged comes as a list of three: as it is in the base, on side 0 and on side 1.
"""

from treemerge.changes import ROOTS_PLACE, worked_on
from treemerge.refusals import CONFLICTS_LEFT, TOO_LARGE
from treemerge.trees import Node, Tree, is_too_large

NUMBERS_CLASH = 1
NODES_CLASH = 2
STANDS_TWICE = 3
WORK_LOST = 4


class Merge:
    """The merged tree, and its conflicts in their order, three numbers each.

    With conflicts it may be no tree at all: a node may stand at several places, or below itself.
    """

    def __init__(self, tree, conflicts):
        self.tree = tree
        self.conflicts = conflicts


def merge_of(trees):
    tree = merged_tree(trees)
    return Merge(tree, conflicts_of(trees, tree))


def refusal_of(merge):
    """The refusal if the merged tree can't be had; else 0."""
    if merge.conflicts:
        return CONFLICTS_LEFT
    if is_too_large(merge.tree):
        return TOO_LARGE
    return 0


def clash(three):
    return three[1] != three[0] and three[2] != three[0] and three[1] != three[2]


def merged_one(three):
    """The merged one of the three, which is side 0's where they clash."""
    return three[2] if three[1] == three[0] else three[1]


def roots_of(trees):
    return [trees.base.root, trees.sides[0].root, trees.sides[1].root]


def three_of(trees, number):
    """The node as it is in each tree; where it isn't, as it is in the base, or, if it's new, on its side."""
    found = [tree.nodes.get(number) for tree in [trees.base] + trees.sides]
    present = [node for node in found if node is not None]
    return [present[0] if node is None else node for node in found]


def values_of(three):
    return [node.value for node in three]


def children_at(three, k):
    return [node.children[k] for node in three]


def merged_node(three):
    children = [merged_one(children_at(three, k)) for k in range(len(three[0].children))]
    return Node(three[0].production, merged_one(values_of(three)), children)


def merged_tree(trees):
    root = merged_one(roots_of(trees))
    nodes = {}
    waiting = [root]
    while waiting:
        number = waiting.pop()
        # A node that stands below itself would be met without end.
        if number not in nodes:
            nodes[number] = merged_node(three_of(trees, number))
            for child in reversed(nodes[number].children):
                waiting.append(child)
    return Tree(root, nodes)


def conflicts_of(trees, tree):
    """The conflicts of the merged tree, in their order."""
    found = [(NUMBERS_CLASH, number, 0) for number in tree.nodes if clash(values_of(three_of(trees, number)))]
    found.extend([(NODES_CLASH, number, place) for number, place in clashing_places(trees, tree)])
    found.extend([(STANDS_TWICE, number, 0) for number in standing_twice(tree)])
    found.extend([(WORK_LOST, number, 0) for number in lost_work(trees, tree)])
    # Both sides may have worked on one node, and each in several ways, but none is told twice.
    return sorted(set(found))


def clashing_places(trees, tree):
    places = []
    if clash(roots_of(trees)):
        places.append(ROOTS_PLACE)
    for number in tree.nodes:
        three = three_of(trees, number)
        places.extend([(number, k + 1) for k in range(len(three[0].children)) if clash(children_at(three, k))])
    return places


def standing_twice(tree):
    """The nodes that stand at more than one place, the root's among them."""
    standing = [tree.root]
    for node in tree.nodes.values():
        standing.extend(node.children)
    return [number for number in tree.nodes if standing.count(number) > 1]


def lost_work(trees, tree):
    """The nodes that a side has worked on, and that aren't in the merged tree."""
    worked = worked_on(trees.base, trees.sides[0]) + worked_on(trees.base, trees.sides[1])
    return [number for number in worked if number not in tree.nodes]
