"""Grammars, read off texts."""

from treemerge.expressions import read_expression
from treemerge.soundness import check_productions, check_symbols, check_trees
from treemerge.tokens import Reader


class Symbol:
    """A symbol's declaration: its name, and its attributes handed down and up."""

    def __init__(self, name, down, up):
        self.name = name
        self.down = down
        self.up = up


class Rule:
    """A rule of a production: an equation's target is a place and a name, a condition's is None."""

    def __init__(self, target, expression):
        self.target = target
        self.expression = expression


class Production:
    """A production: its name, its left side, whether its nodes hold a number, its children and its rules.

    The left side and the children are names of symbols.
    """

    def __init__(self, name, left, holds_number, children, rules):
        self.name = name
        self.left = left
        self.holds_number = holds_number
        self.children = children
        self.rules = rules


class Grammar:
    """The symbols and the productions of a grammar by their names, in the order of the text."""

    def __init__(self, symbols, productions):
        self.symbols = symbols
        self.productions = productions


def read_grammar(text):
    """The grammar that the text is."""
    reader = Reader(text)
    symbols = []
    productions = []
    while reader.kind() != "end":
        if reader.kind() == "great":
            symbols.append(read_symbol(reader))
        else:
            productions.append(read_production(reader))
    check_symbols(symbols)
    declared = dict([(symbol.name, symbol) for symbol in symbols])
    check_productions(productions, declared)
    check_trees(productions, declared)
    return Grammar(declared, dict([(production.name, production) for production in productions]))


def read_names(reader, kind):
    """The names of this kind that come now, as many as there are."""
    names = []
    while reader.kind() == kind:
        names.append(reader.take(kind))
    return names


def read_symbol(reader):
    name = reader.take("great")
    down = read_names(reader, "small")
    reader.take(">")
    up = read_names(reader, "small")
    reader.take(";")
    return Symbol(name, down, up)


def read_production(reader):
    name = reader.take("small")
    left = reader.take("great")
    holds_number = reader.skip("#")
    reader.take(":")
    children = read_names(reader, "great")
    reader.take("{")
    rules = []
    while not reader.skip("}"):
        rules.append(read_rule(reader))
    return Production(name, left, holds_number, children, rules)


def read_rule(reader):
    target = None
    if not reader.skip("?"):
        target = read_target(reader)
        reader.take("=")
    expression = read_expression(reader)
    reader.take(";")
    return Rule(target, expression)


def read_target(reader):
    place = 0
    if reader.kind() == "number":
        place = reader.take("number")
        reader.take(".")
    return (place, reader.take("small"))
