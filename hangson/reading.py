"""Reads a text as symbols and productions, as they stand there.

Whether what was read is a grammar is not asked here: a text that can't be read
is refused otherwise than one that can be read and is no grammar.
"""

from hangson.expressions import read_expression
from hangson.tokens import END, GREAT, NUMBER, SMALL, Cursor, tokens_of


class ReadSymbol:
    """A symbol's declaration: its name and its attributes' names."""

    def __init__(self, name, handed_down, handed_up):
        self.name = name
        self.handed_down = handed_down
        self.handed_up = handed_up


class ReadProduction:
    """A production with the names of its left side and its children."""

    def __init__(self, name, left, is_numbered, children, rules):
        self.name = name
        self.left = left
        self.is_numbered = is_numbered
        self.children = children
        self.rules = rules


class ReadRule:
    """An equation, or a condition: then its target is None."""

    def __init__(self, target, expression):
        self.target = target
        self.expression = expression


class ReadText:
    """All symbols and all productions of a text, each in the order in which they stand there."""

    def __init__(self, symbols, productions):
        self.symbols = symbols
        self.productions = productions


def read_text(text):
    cursor = Cursor(tokens_of(text))
    symbols = []
    productions = []
    while cursor.next_kind() != END:
        if cursor.next_kind() == GREAT:
            symbols.append(read_symbol(cursor))
        else:
            productions.append(read_production(cursor))
    return ReadText(symbols, productions)


def read_names(cursor, kind):
    names = []
    while cursor.next_kind() == kind:
        names.append(cursor.take(kind))
    return names


def read_symbol(cursor):
    name = cursor.take(GREAT)
    handed_down = read_names(cursor, SMALL)
    cursor.take_mark(">")
    handed_up = read_names(cursor, SMALL)
    cursor.take_mark(";")
    return ReadSymbol(name, handed_down, handed_up)


def read_production(cursor):
    name = cursor.take(SMALL)
    left = cursor.take(GREAT)
    is_numbered = cursor.next_mark() == "#"
    if is_numbered:
        cursor.take_mark("#")
    cursor.take_mark(":")
    children = read_names(cursor, GREAT)
    cursor.take_mark("{")
    rules = []
    while cursor.next_mark() != "}":
        rules.append(read_rule(cursor))
    cursor.take_mark("}")
    return ReadProduction(name, left, is_numbered, children, rules)


def read_rule(cursor):
    target = None
    if cursor.next_mark() == "?":
        cursor.take_mark("?")
    else:
        target = read_target(cursor)
        cursor.take_mark("=")
    expression = read_expression(cursor)
    cursor.take_mark(";")
    return ReadRule(target, expression)


def read_target(cursor):
    place = 0
    if cursor.next_kind() == NUMBER:
        place = cursor.take(NUMBER)
        cursor.take_mark(".")
    return (place, cursor.take(SMALL))
