"""The object on which calls are made: a grammar that is held, and the pairs that are assumed."""

from hangson.families import ABOVE, BELOW, JOINED, OWN, graph_of_kind, work_out
from hangson.grammars import grammar_of, number_named
from hangson.graphs import closed, told_arrows, told_occurrences
from hangson.reasons import reason_of
from hangson.refusals import (
    AssumedAlready, NoSuchAttribute, NoSuchKind, NoSuchOccurrence, NoSuchProduction, NoSuchSymbol, NotFromBelow,
    NothingHeld, SameDirection, TooLong, TooManyAssumed,
)
from hangson.spreading import spread_from
from hangson.ways import first_circle, first_way, has_circle

MOST_BYTES = 3000
MOST_ASSUMED = 20


class Holder:
    """Each call answers a list of numbers, or raises its refusal and changes nothing."""

    def __init__(self):
        self.grammar = None
        self.assumed = {}
        # Families are kept till what they hang on changes: many calls may ask for the same one.
        self.families = {}

    def load(self, text):
        if len(text) > MOST_BYTES:
            raise TooLong()
        self.grammar = grammar_of(text)
        self.assumed = {}
        self.families = {}
        return [0, len(self.grammar.symbols), len(self.grammar.productions)]

    def arrows(self, name):
        self.require_grammar()
        production = self.production_named(name)
        return [0] + told_arrows(production.occurrences, production.own_graph)

    def assume(self, name, one, other):
        self.require_grammar()
        pair = self.pair_named(name, one, other)
        symbol = self.grammar.symbols[pair[0]]
        if symbol.is_handed_down(pair[1]) == symbol.is_handed_down(pair[2]):
            raise SameDirection()
        if pair in self.assumed:
            raise AssumedAlready()
        if len(self.assumed) >= MOST_ASSUMED:
            raise TooManyAssumed()
        self.assumed[pair] = True
        self.families = {}
        return [0]

    def release(self, name, one, other):
        self.require_grammar()
        pair = self.pair_named(name, one, other)
        if pair not in self.assumed:
            return [0]
        self.assumed.pop(pair)
        self.families = {}
        return [1]

    def graph(self, kind, name):
        self.require_grammar()
        if kind not in (BELOW, ABOVE, JOINED):
            raise NoSuchKind()
        number = self.symbol_named(name)
        self.require_families(kind)
        told = [0]
        for pair in sorted(self.families[kind].found_in):
            if pair[0] == number:
                told.extend(pair[1:])
        return told

    def closure(self, kind, name):
        self.require_grammar()
        self.require_kind(kind)
        production = self.production_named(name)
        return [0] + told_arrows(production.occurrences, closed(self.graph_of(kind, production)))

    def verdict(self):
        self.require_grammar()
        return [0] + [1 if self.is_free(kind) else 0 for kind in (OWN, BELOW, ABOVE, JOINED)]

    def circle(self, kind):
        self.require_grammar()
        self.require_kind(kind)
        for number, production in enumerate(self.grammar.productions):
            found = first_circle(self.graph_of(kind, production))
            if len(found) > 0:
                return [0, number] + told_occurrences(production.occurrences, found)
        return [1]

    def way(self, kind, one, other, name):
        """One and other are occurrences, each told by its place and its attribute's number."""
        self.require_grammar()
        self.require_kind(kind)
        production = self.production_named(name)
        start = self.occurrence_at(one, production)
        target = self.occurrence_at(other, production)
        found = first_way(self.graph_of(kind, production), start, target)
        return [0] + told_occurrences(production.occurrences, found)

    def why(self, name, one, other):
        self.require_grammar()
        pair = self.pair_named(name, one, other)
        self.require_families(BELOW)
        family = self.families[BELOW]
        if pair not in family.found_in:
            raise NotFromBelow()
        turn = family.found_in[pair]
        if turn == 0:
            return [0, 0]
        reason = reason_of(pair, self.grammar, family)
        production = self.grammar.productions[reason[0]]
        return [0, turn, reason[0]] + told_occurrences(production.occurrences, reason[1])

    def spread(self, name, attribute):
        self.require_grammar()
        symbol = self.symbol_named(name)
        told = [0]
        for other in spread_from(self.grammar, (symbol, self.attribute_named(symbol, attribute))):
            told.extend(other)
        return told

    def rounds(self):
        self.require_grammar()
        told = [0]
        for kind in (BELOW, ABOVE, JOINED):
            self.require_families(kind)
            told.append(self.families[kind].last_round())
        return told

    def require_grammar(self):
        if self.grammar is None:
            raise NothingHeld()

    def require_kind(self, kind):
        """Sees that there are graphs of this kind."""
        if kind not in (OWN, BELOW, ABOVE, JOINED):
            raise NoSuchKind()

    def require_families(self, kind):
        """Sees that the families that graphs and families of this kind ask for are worked out."""
        if kind == ABOVE:
            self.require_families(BELOW)
        if kind != OWN and kind not in self.families:
            work_out(kind, self.grammar, self.assumed, self.families)

    def graph_of(self, kind, production):
        self.require_families(kind)
        return graph_of_kind(kind, production, self.families)

    def is_free(self, kind):
        return not any([has_circle(self.graph_of(kind, production)) for production in self.grammar.productions])

    def production_named(self, name):
        number = number_named(name, self.grammar.productions)
        if number is None:
            raise NoSuchProduction()
        return self.grammar.productions[number]

    def symbol_named(self, name):
        """The number of the symbol of this name."""
        number = number_named(name, self.grammar.symbols)
        if number is None:
            raise NoSuchSymbol()
        return number

    def attribute_named(self, symbol, name):
        """The number of the attribute of this name, of the symbol of this number."""
        number = self.grammar.symbols[symbol].number_of(name)
        if number is None:
            raise NoSuchAttribute()
        return number

    def pair_named(self, name, one, other):
        symbol = self.symbol_named(name)
        return (symbol, self.attribute_named(symbol, one), self.attribute_named(symbol, other))

    def occurrence_at(self, told, production):
        """The number of the occurrence of this place and this attribute's number."""
        if told not in production.occurrences:
            raise NoSuchOccurrence()
        return production.occurrences.index(told)
