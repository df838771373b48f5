"""The calls that tell of the trees and change nothing.

Each call answers a list: 0 and what else it tells, or the number of its refusal.
"""

from treemerge.changes import changes_of
from treemerge.edits import unknown
from treemerge.merging import merge_of, refusal_of
from treemerge.refusals import NO_SUCH_SIDE
from treemerge.trees import form_of

BASE = 2


def tree_called(trees, which):
    """The tree of a side or the base, or None if there's no such tree."""
    if which == BASE:
        return trees.base
    return trees.sides[which] if which in (0, 1) else None


def bytes_of_form(tree):
    return [ord(sign) for sign in form_of(tree, tree.root)]


def in_one_row(told):
    """The numbers of all changes or conflicts one behind another."""
    row = []
    for numbers in told:
        row.extend(numbers)
    return row


def tell_form(trees, which):
    tree = tree_called(trees, which)
    if tree is None:
        return [NO_SUCH_SIDE]
    return [0] + bytes_of_form(tree)


def tell_nodes(trees, which):
    tree = tree_called(trees, which)
    if tree is None:
        return [NO_SUCH_SIDE]
    return [0] + list(tree.nodes)


def tell_changes(trees, side):
    refusal = unknown(trees, side, [])
    if refusal != 0:
        return [refusal]
    return [0] + in_one_row(changes_of(trees.base, trees.sides[side]))


def tell_conflicts(trees):
    return [0] + in_one_row(merge_of(trees).conflicts)


def tell_merge(trees):
    merge = merge_of(trees)
    refusal = refusal_of(merge)
    if refusal != 0:
        return [refusal]
    return [0] + bytes_of_form(merge.tree)


def tell_origin(trees):
    merge = merge_of(trees)
    refusal = refusal_of(merge)
    if refusal != 0:
        return [refusal]
    return [0] + list(merge.tree.nodes)
