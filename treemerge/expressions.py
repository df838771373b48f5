"""Expressions, read off tokens.

No call works an expression out, so its parts are counted and checked, and only
what it asks of its production is kept.
"""

from treemerge.tokens import Unreadable

ARGUMENTS = {"len": 1, "at": 2, "cat": 2, "look": 3, "drop": 2, "has": 2, "max": 2, "min": 2}
MOST_PARTS = 60
MOST_LEVELS = 30
JOINING = ("|", "&")
COMPARING = ("=", "<")
RECKONING = ("+", "-", "*", "/", "remainder")
BEFORE_ONE = ("-", "!")


class Expression:
    """What is known of an expression while it's read, and afterwards."""

    def __init__(self):
        self.parts = 0
        self.levels = 0
        self.occurrences = []
        self.asks_number = False

    def count_part(self):
        self.parts += 1
        if self.parts > MOST_PARTS:
            raise Unreadable()

    def enter(self):
        """Begin a level."""
        self.levels += 1
        if self.levels > MOST_LEVELS:
            raise Unreadable()

    def leave(self, levels):
        """End this many levels."""
        self.levels -= levels


def read_expression(reader):
    """The expression that comes now."""
    expression = Expression()
    read_whole(reader, expression)
    return expression


def read_whole(reader, expression):
    """Read an if or a choice. The levels' bound keeps these functions from calling each other too deep."""
    if not reader.skip("if"):
        read_choice(reader, expression)
        return
    expression.count_part()
    expression.enter()
    read_whole(reader, expression)
    reader.take("then")
    read_whole(reader, expression)
    reader.take("else")
    read_whole(reader, expression)
    expression.leave(1)


def read_choice(reader, expression):
    """Read a choice as one row of arguments with operators between them.

    How the operators group changes neither the parts nor the levels. Of the
    rules behind a choice there's only this left to heed: one = or < at most
    may stand between two of the signs | and &.
    """
    compared = False
    read_signed(reader, expression)
    while reader.kind() in JOINING + COMPARING + RECKONING:
        operator = reader.kind()
        if operator in COMPARING and compared:
            raise Unreadable()
        if operator not in RECKONING:
            compared = operator in COMPARING
        reader.take(operator)
        expression.count_part()
        read_signed(reader, expression)


def read_signed(reader, expression):
    """Read an atom with the signs before it, which all end where it ends."""
    signs = 0
    while reader.kind() in BEFORE_ONE:
        reader.take(reader.kind())
        expression.count_part()
        expression.enter()
        signs += 1
    read_atom(reader, expression)
    expression.leave(signs)


def read_atom(reader, expression):
    if reader.skip("("):
        expression.enter()
        read_whole(reader, expression)
        reader.take(")")
        expression.leave(1)
        return
    expression.count_part()
    if reader.skip("["):
        read_arguments(reader, expression, "]")
    elif reader.skip("#"):
        expression.asks_number = True
    elif reader.kind() == "number":
        read_number(reader, expression)
    else:
        read_name(reader, expression)


def read_number(reader, expression):
    """Read a number, or an occurrence that begins with its place."""
    number = reader.take("number")
    if reader.skip("."):
        expression.occurrences.append((number, reader.take("small")))


def read_name(reader, expression):
    """Read a call, or an occurrence at the place 0."""
    name = reader.take("small")
    if not reader.skip("("):
        expression.occurrences.append((0, name))
    elif read_arguments(reader, expression, ")") != ARGUMENTS.get(name):
        raise Unreadable()


def read_arguments(reader, expression, closing):
    """Read what stands between brackets, the first of which is passed; tell how many arguments it has."""
    arguments = 0
    expression.enter()
    if reader.kind() != closing:
        read_whole(reader, expression)
        arguments = 1
        while reader.skip(","):
            read_whole(reader, expression)
            arguments += 1
    reader.take(closing)
    expression.leave(1)
    return arguments
