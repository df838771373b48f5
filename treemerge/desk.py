"""The one way in: a list of calls on an object that is new, and the list of what they answer."""

from treemerge.edits import LONGEST_TEXT, ThreeTrees, lift, replace, reset, set_number, swap
from treemerge.grammars import read_grammar
from treemerge.merging import merge_of, refusal_of
from treemerge.refusals import NO_GRAMMAR, NO_GRAMMAR_HELD, NO_TREE, NO_TREES_HELD, TEXT_TOO_LONG
from treemerge.tellings import tell_changes, tell_conflicts, tell_form, tell_merge, tell_nodes, tell_origin
from treemerge.tokens import Unreadable
from treemerge.trees import read_tree, renumbered

GRAMMAR = 0
TREE = 1
REPLACE = 2
NUMBER = 3
SWAP = 4
LIFT = 5
FORM = 6
NODES = 7
CHANGES = 8
CONFLICTS = 9
MERGE = 10
ORIGIN = 11
ACCEPT = 12

# By a call's number: how many whole numbers stand behind it, and whether a text stands behind these.
SHAPES = {
    0: (0, True),
    1: (0, True),
    2: (2, True),
    3: (3, False),
    4: (3, False),
    5: (2, False),
    6: (1, False),
    7: (1, False),
    8: (1, False),
    9: (0, False),
    10: (0, False),
    11: (0, False),
    12: (0, False),
    13: (1, False),
}


class Desk:
    """What the calls of one list share: the grammar and the three trees that are held, or None."""

    def __init__(self):
        self.grammar = None
        self.trees = None


def answers(calls):
    """For each call in order how many numbers it answers, and these."""
    desk = Desk()
    told = []
    place = 0
    while place < len(calls):
        call = calls[place]
        shape = SHAPES[call]
        end = place + 1 + shape[0]
        numbers = calls[place + 1:end]
        text = []
        if shape[1]:
            text = calls[end + 1:end + 1 + calls[end]]
            end += 1 + len(text)
        answer = answer_of(desk, call, numbers, text)
        told.append(len(answer))
        told.extend(answer)
        place = end
    return told


def answer_of(desk, call, numbers, text):
    """What one call answers: 0 and what else it tells, or the number of its refusal."""
    if call == GRAMMAR:
        return take_grammar(desk, text)
    if call == TREE:
        return take_tree(desk, text)
    if desk.trees is None:
        return [NO_TREES_HELD]
    if call in (FORM, NODES, CHANGES):
        return answer_of_one_tree(desk.trees, call, numbers[0])
    if call in (CONFLICTS, MERGE, ORIGIN, ACCEPT):
        return answer_of_merge(desk, call)
    return answer_of_edit(desk, call, numbers, text)


def answer_of_edit(desk, call, numbers, text):
    if call == REPLACE:
        return replace(desk.trees, desk.grammar, numbers[0], numbers[1], text)
    if call == NUMBER:
        return set_number(desk.trees, numbers[0], numbers[1], numbers[2])
    if call == SWAP:
        return swap(desk.trees, numbers[0], numbers[1], numbers[2])
    if call == LIFT:
        return lift(desk.trees, numbers[0], numbers[1])
    return reset(desk.trees, numbers[0])


def answer_of_one_tree(trees, call, which):
    if call == FORM:
        return tell_form(trees, which)
    if call == NODES:
        return tell_nodes(trees, which)
    return tell_changes(trees, which)


def answer_of_merge(desk, call):
    if call == CONFLICTS:
        return tell_conflicts(desk.trees)
    if call == MERGE:
        return tell_merge(desk.trees)
    if call == ORIGIN:
        return tell_origin(desk.trees)
    return accept(desk)


def take_grammar(desk, text):
    if len(text) > LONGEST_TEXT:
        return [TEXT_TOO_LONG]
    try:
        grammar = read_grammar(text)
    except Unreadable:
        return [NO_GRAMMAR]
    desk.grammar = grammar
    desk.trees = None
    return [0, len(grammar.symbols), len(grammar.productions)]


def take_tree(desk, text):
    if desk.grammar is None:
        return [NO_GRAMMAR_HELD]
    if len(text) > LONGEST_TEXT:
        return [TEXT_TOO_LONG]
    try:
        base = read_tree(text, desk.grammar, 0)
    except Unreadable:
        return [NO_TREE]
    return begin_with(desk, base)


def accept(desk):
    merge = merge_of(desk.trees)
    refusal = refusal_of(merge)
    if refusal != 0:
        return [refusal]
    return begin_with(desk, renumbered(merge.tree))


def begin_with(desk, base):
    """Hold this tree as the base and as the tree of both sides, and tell how many nodes it has."""
    desk.trees = ThreeTrees(base)
    return [0, len(base.nodes)]
