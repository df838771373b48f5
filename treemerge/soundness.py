"""What a grammar must keep to besides the rules by which it's read."""

from treemerge.tokens import Unreadable

MOST_SYMBOLS = 12
MOST_ATTRIBUTES = 4
MOST_PRODUCTIONS = 24
MOST_CHILDREN = 3
MOST_RULES = 24


def demand(holds):
    if not holds:
        raise Unreadable()


def all_differ(names):
    return len(set(names)) == len(names)


def attributes_of(symbol):
    return symbol.down + symbol.up


def check_symbols(symbols):
    demand(1 <= len(symbols) <= MOST_SYMBOLS)
    demand(all_differ([symbol.name for symbol in symbols]))
    for symbol in symbols:
        demand(len(attributes_of(symbol)) <= MOST_ATTRIBUTES)
        demand(all_differ(attributes_of(symbol)))


def check_productions(productions, symbols):
    """Check each production; symbols are the declared ones by their names."""
    demand(len(productions) <= MOST_PRODUCTIONS)
    demand(all_differ([production.name for production in productions]))
    for production in productions:
        demand(len(production.children) <= MOST_CHILDREN)
        demand(len(production.rules) <= MOST_RULES)
        names = [production.left] + production.children
        demand(all([name in symbols for name in names]))
        places = [symbols[name] for name in names]
        check_targets(production, places)
        for rule in production.rules:
            check_expression(rule.expression, production, places)


def to_be_defined(places):
    """The occurrences that equations must define, where these symbols stand at the places from 0 on."""
    occurrences = [(0, name) for name in places[0].up]
    for place in range(1, len(places)):
        occurrences.extend([(place, name) for name in places[place].down])
    return occurrences


def check_targets(production, places):
    targets = [rule.target for rule in production.rules if rule.target is not None]
    # Neither list has anything twice once this holds: attributes of a symbol differ.
    demand(sorted(targets) == sorted(to_be_defined(places)))


def check_expression(expression, production, places):
    demand(production.holds_number or not expression.asks_number)
    for place, name in expression.occurrences:
        demand(place < len(places))
        demand(name in attributes_of(places[place]))


def check_trees(productions, symbols):
    """Check that each symbol has a tree: those that have one are found from the leaves on."""
    found = {}
    grows = True
    while grows:
        grows = False
        for production in productions:
            if production.left not in found and all([name in found for name in production.children]):
                found[production.left] = True
                grows = True
    demand(len(found) == len(symbols))
