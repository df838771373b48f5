"""What a side has changed of the base.

A place is a pair: the node whose child's place it is, and which child's, from 1 on.
"""

NUMBER_CHANGED = 1
PLACE_CHANGED = 2
GONE = 3
NEW = 4
ROOTS_PLACE = (-1, 0)


def changes_of(base, tree):
    """What the side whose tree this is has changed, in the order in which it's told, three numbers each."""
    found = [(NUMBER_CHANGED, number, 0) for number in changed_numbers(base, tree)]
    found.extend([(PLACE_CHANGED, number, place) for number, place in changed_places(base, tree)])
    found.extend([(GONE, number, 0) for number in base.nodes if number not in tree.nodes])
    found.extend([(NEW, number, 0) for number in tree.nodes if number not in base.nodes])
    return sorted(found)


def kept_nodes(base, tree):
    """The nodes of the base that stand in the tree too."""
    return [number for number in base.nodes if number in tree.nodes]


def changed_numbers(base, tree):
    """The nodes whose numbers were changed."""
    return [number for number in kept_nodes(base, tree) if tree.nodes[number].value != base.nodes[number].value]


def changed_places(base, tree):
    places = []
    if tree.root != base.root:
        places.append(ROOTS_PLACE)
    for number in kept_nodes(base, tree):
        before = base.nodes[number].children
        now = tree.nodes[number].children
        places.extend([(number, k + 1) for k in range(len(before)) if now[k] != before[k]])
    return places


def worked_on(base, tree):
    """The nodes that the side whose tree this is has worked on; one may come more than once."""
    worked = [number for number in tree.nodes if number not in base.nodes]
    worked.extend(changed_numbers(base, tree))
    # The root's place is no node's, so to change it is to work on none.
    worked.extend([place[0] for place in changed_places(base, tree) if place != ROOTS_PLACE])
    return worked
