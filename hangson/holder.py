"""The object on which calls are made: a grammar that is held, and the pairs that are assumed."""

from hangson.families import ABOVE, BELOW, JOINED, OWN, graph_of_kind, work_out
from hangson.grammars import grammar_of, number_named
from hangson.graphs import closed, told_arrows
from hangson.refusals import (
    AssumedAlready, NoSuchAttribute, NoSuchKind, NoSuchProduction, NoSuchSymbol, NothingHeld, SameDirection,
    TooLong, TooManyAssumed,
)

MOST_BYTES = 3000
MOST_ASSUMED = 20


class Holder:
    """Each call answers a list of numbers, or raises its refusal and changes nothing."""

    def __init__(self):
        self.grammar = None
        self.assumed = {}
        # Families are kept till what they hang on changes: many calls may ask for the same one.
        self.families = {}

    def load(self, text):
        if len(text) > MOST_BYTES:
            raise TooLong()
        self.grammar = grammar_of(text)
        self.assumed = {}
        self.families = {}
        return [0, len(self.grammar.symbols), len(self.grammar.productions)]

    def arrows(self, name):
        self.require_grammar()
        production = self.production_named(name)
        return [0] + told_arrows(production.occurrences, production.own_graph)

    def assume(self, name, one, other):
        self.require_grammar()
        pair = self.pair_named(name, one, other)
        symbol = self.grammar.symbols[pair[0]]
        if symbol.is_handed_down(pair[1]) == symbol.is_handed_down(pair[2]):
            raise SameDirection()
        if pair in self.assumed:
            raise AssumedAlready()
        if len(self.assumed) >= MOST_ASSUMED:
            raise TooManyAssumed()
        self.assumed[pair] = True
        self.families = {}
        return [0]

    def release(self, name, one, other):
        self.require_grammar()
        pair = self.pair_named(name, one, other)
        if pair not in self.assumed:
            return [0]
        self.assumed.pop(pair)
        self.families = {}
        return [1]

    def graph(self, kind, name):
        self.require_grammar()
        if kind not in (BELOW, ABOVE, JOINED):
            raise NoSuchKind()
        number = self.symbol_named(name)
        self.require_families(kind)
        told = [0]
        for pair in sorted(self.families[kind].found_in):
            if pair[0] == number:
                told.extend(pair[1:])
        return told

    def closure(self, kind, name):
        self.require_grammar()
        if kind not in (OWN, BELOW, ABOVE, JOINED):
            raise NoSuchKind()
        production = self.production_named(name)
        self.require_families(kind)
        graph = graph_of_kind(kind, production, self.families)
        return [0] + told_arrows(production.occurrences, closed(graph))

    def require_grammar(self):
        if self.grammar is None:
            raise NothingHeld()

    def require_families(self, kind):
        """Sees that the families that graphs and families of this kind ask for are worked out."""
        if kind == ABOVE:
            self.require_families(BELOW)
        if kind != OWN and kind not in self.families:
            work_out(kind, self.grammar, self.assumed, self.families)

    def production_named(self, name):
        number = number_named(name, self.grammar.productions)
        if number is None:
            raise NoSuchProduction()
        return self.grammar.productions[number]

    def symbol_named(self, name):
        """The number of the symbol of this name."""
        number = number_named(name, self.grammar.symbols)
        if number is None:
            raise NoSuchSymbol()
        return number

    def pair_named(self, name, one, other):
        number = self.symbol_named(name)
        symbol = self.grammar.symbols[number]
        first = symbol.number_of(one)
        second = symbol.number_of(other)
        if first is None or second is None:
            raise NoSuchAttribute()
        return (number, first, second)
