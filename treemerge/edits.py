"""The three trees, and the calls that edit the tree of a side.

Each call answers a list: 0 and what else it tells, or the number of its refusal.
"""

from treemerge.refusals import HOLDS_NO_NUMBER, IS_THE_ROOT, MAY_NOT_STAND_THERE, NO_SUCH_NODE, NO_SUCH_SIDE, NO_TREE
from treemerge.refusals import NUMBERS_USED_UP, ONE_WITHIN_THE_OTHER, TEXT_TOO_LONG, TOO_LARGE, VALUE_OUT_OF_BOUNDS
from treemerge.tokens import Unreadable
from treemerge.trees import is_too_large, is_within, parent_of, read_tree, rebuilt, symbol_of, with_value

LONGEST_TEXT = 3000
FIRST_NEW_NUMBERS = (1000, 2000)
MOST_NEW_NUMBERS = 900
LARGEST_VALUE = 999999999999999999


class ThreeTrees:
    """The base, the trees of the two sides, and how many numbers each side has given."""

    def __init__(self, base):
        self.base = base
        self.sides = [base, base]
        self.given = [0, 0]


def unknown(trees, side, numbers):
    """The refusal if there's no such side, or if one of these is no node of its tree; else 0."""
    if side not in (0, 1):
        return NO_SUCH_SIDE
    if not all([number in trees.sides[side].nodes for number in numbers]):
        return NO_SUCH_NODE
    return 0


def may_stand(tree, number, symbol):
    """Whether a tree of this symbol may stand in the node's stead."""
    return number == tree.root or symbol == symbol_of(tree, number)


def replace(trees, grammar, side, number, text):
    refusal = unknown(trees, side, [number])
    if refusal != 0:
        return [refusal]
    if len(text) > LONGEST_TEXT:
        return [TEXT_TOO_LONG]
    first = FIRST_NEW_NUMBERS[side] + trees.given[side]
    try:
        new = read_tree(text, grammar, first)
    except Unreadable:
        return [NO_TREE]
    tree = trees.sides[side]
    if not may_stand(tree, number, symbol_of(new, first)):
        return [MAY_NOT_STAND_THERE]
    nodes = dict(tree.nodes)
    nodes.update(new.nodes)
    edited = rebuilt(tree.root, nodes, {number: first})
    if is_too_large(edited):
        return [TOO_LARGE]
    if trees.given[side] + len(new.nodes) > MOST_NEW_NUMBERS:
        return [NUMBERS_USED_UP]
    trees.sides[side] = edited
    trees.given[side] += len(new.nodes)
    return [0, first]


def set_number(trees, side, number, value):
    refusal = unknown(trees, side, [number])
    if refusal != 0:
        return [refusal]
    tree = trees.sides[side]
    if not tree.nodes[number].production.holds_number:
        return [HOLDS_NO_NUMBER]
    if abs(value) > LARGEST_VALUE:
        return [VALUE_OUT_OF_BOUNDS]
    trees.sides[side] = with_value(tree, number, value)
    return [0]


def swap(trees, side, number, other):
    refusal = unknown(trees, side, [number, other])
    if refusal != 0:
        return [refusal]
    tree = trees.sides[side]
    if is_within(tree, number, other) or is_within(tree, other, number):
        return [ONE_WITHIN_THE_OTHER]
    if symbol_of(tree, number) != symbol_of(tree, other):
        return [MAY_NOT_STAND_THERE]
    edited = rebuilt(tree.root, tree.nodes, {number: other, other: number})
    if is_too_large(edited):
        return [TOO_LARGE]
    trees.sides[side] = edited
    return [0]


def lift(trees, side, number):
    refusal = unknown(trees, side, [number])
    if refusal != 0:
        return [refusal]
    tree = trees.sides[side]
    parent = parent_of(tree, number)
    if parent is None:
        return [IS_THE_ROOT]
    if not may_stand(tree, parent, symbol_of(tree, number)):
        return [MAY_NOT_STAND_THERE]
    trees.sides[side] = rebuilt(tree.root, tree.nodes, {parent: number})
    return [0]


def reset(trees, side):
    refusal = unknown(trees, side, [])
    if refusal != 0:
        return [refusal]
    # What was given stays given, so that no number comes to mean another node.
    trees.sides[side] = trees.base
    return [0]
