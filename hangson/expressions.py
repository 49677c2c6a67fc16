"""Reads expressions off tokens.

The tree of an expression's parts isn't kept: arrows hang only on which
occurrences stand in it, and its bounds only on counts.
"""

from hangson.refusals import Unreadable
from hangson.tokens import MARK, NUMBER, SMALL, spelled

MOST_PARTS = 60
MOST_LEVELS = 30

# The operators between two arguments, from those that bind least to those that bind most.
STEPS = (("|",), ("&",), ("=", "<"), ("+", "-"), ("*", "/", "mod"))
COMPARISON = 2

CALLS = {"len": 1, "at": 2, "cat": 2, "look": 3, "drop": 2, "has": 2, "max": 2, "min": 2}


class Expression:
    """What an expression says: its occurrences (place and name), and whether # stands in it."""

    def __init__(self):
        self.occurrences = []
        self.has_own_number = False
        self.parts = 0
        self.levels = 0

    def add_part(self):
        self.parts += 1
        if self.parts > MOST_PARTS:
            raise Unreadable()

    def begin_level(self):
        self.levels += 1
        if self.levels > MOST_LEVELS:
            raise Unreadable()

    def end_levels(self, count):
        self.levels -= count


def read_expression(cursor):
    expression = Expression()
    read_whole(cursor, expression)
    return expression


def read_whole(cursor, expression):
    if cursor.next_mark() == "if":
        read_if(cursor, expression)
    else:
        read_step(cursor, expression, 0)


def read_if(cursor, expression):
    expression.begin_level()
    expression.add_part()
    for word in ("if", "then", "else"):
        cursor.take_mark(word)
        read_whole(cursor, expression)
    expression.end_levels(1)


def read_step(cursor, expression, step):
    """Reads arguments with the operators of this step between them."""
    if step == len(STEPS):
        read_signed(cursor, expression)
        return
    read_step(cursor, expression, step + 1)
    while cursor.next_mark() in STEPS[step]:
        cursor.take(MARK)
        expression.add_part()
        read_step(cursor, expression, step + 1)
        # A comparison compares two sums and no more.
        if step == COMPARISON:
            return


def read_signed(cursor, expression):
    signs = 0
    while cursor.next_mark() in ("-", "!"):
        cursor.take(MARK)
        expression.begin_level()
        expression.add_part()
        signs += 1
    read_atom(cursor, expression)
    expression.end_levels(signs)


def read_atom(cursor, expression):
    if cursor.next_kind() == NUMBER:
        read_number(cursor, expression)
    elif cursor.next_kind() == SMALL:
        read_name(cursor, expression)
    elif cursor.next_mark() == "(":
        read_bracket(cursor, expression)
    elif cursor.next_mark() == "[":
        expression.add_part()
        read_arguments(cursor, expression, "[", "]")
    else:
        cursor.take_mark("#")
        expression.add_part()
        expression.has_own_number = True


def read_number(cursor, expression):
    """Reads a number, or the occurrence whose place it tells."""
    number = cursor.take(NUMBER)
    expression.add_part()
    if cursor.next_mark() == ".":
        cursor.take_mark(".")
        expression.occurrences.append((number, cursor.take(SMALL)))


def read_name(cursor, expression):
    """Reads a call, or an occurrence at the place 0."""
    name = cursor.take(SMALL)
    expression.add_part()
    if cursor.next_mark() != "(":
        expression.occurrences.append((0, name))
    elif read_arguments(cursor, expression, "(", ")") != count_for(name):
        raise Unreadable()


def count_for(name):
    """How many arguments the call of this name has."""
    for word in CALLS:
        if spelled(word) == name:
            return CALLS[word]
    raise Unreadable()


def read_bracket(cursor, expression):
    cursor.take_mark("(")
    expression.begin_level()
    read_whole(cursor, expression)
    cursor.take_mark(")")
    expression.end_levels(1)


def read_arguments(cursor, expression, opening, closing):
    """Reads arguments in their brackets and tells how many they are."""
    cursor.take_mark(opening)
    expression.begin_level()
    count = 0
    if cursor.next_mark() != closing:
        read_whole(cursor, expression)
        count = 1
    while cursor.next_mark() == ",":
        cursor.take_mark(",")
        read_whole(cursor, expression)
        count += 1
    cursor.take_mark(closing)
    expression.end_levels(1)
    return count
