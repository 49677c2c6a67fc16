"""Makes a grammar of a text, or refuses it.

Here symbols, productions and attributes go by their numbers; names are bytes in
a tuple.
"""

from hangson.graphs import with_arrow
from hangson.reading import read_text
from hangson.refusals import NoGrammar

MOST_SYMBOLS = 12
MOST_ATTRIBUTES = 4
MOST_PRODUCTIONS = 24
MOST_CHILDREN = 3
MOST_RULES = 24


class Symbol:
    """A symbol: its attributes are those handed down, then those handed up."""

    def __init__(self, name, handed_down, handed_up):
        self.name = name
        self.attributes = handed_down + handed_up
        self.down_count = len(handed_down)

    def number_of(self, attribute):
        """The number of the attribute of this name, or None."""
        if attribute in self.attributes:
            return self.attributes.index(attribute)
        return None

    def is_handed_down(self, attribute):
        return attribute < self.down_count


class Production:
    """A production: the symbols at its places, its occurrences in order, its own arrows.

    An occurrence's number is its index among the occurrences; those of one
    place stand together, from the number that starts tells for the place.
    """

    def __init__(self, name, places, counts):
        self.name = name
        self.places = places
        self.starts = []
        self.occurrences = []
        for place, count in enumerate(counts):
            self.starts.append(len(self.occurrences))
            self.occurrences.extend([(place, attribute) for attribute in range(count)])
        self.own_graph = [0 for occurrence in self.occurrences]


class Grammar:
    """Symbols and productions, each in the order of their numbers."""

    def __init__(self, symbols, productions):
        self.symbols = symbols
        self.productions = productions


def number_named(name, named):
    """The number of the symbol or the production of this name, or None."""
    for number, candidate in enumerate(named):
        if candidate.name == name:
            return number
    return None


def require(holds):
    if not holds:
        raise NoGrammar()


def are_different(names):
    return len(set(names)) == len(names)


def grammar_of(text):
    """The grammar that the text is."""
    read = read_text(text)
    symbols = symbols_of(read.symbols)
    require(len(read.productions) <= MOST_PRODUCTIONS)
    require(are_different([production.name for production in read.productions]))
    productions = [production_of(production, symbols) for production in read.productions]
    require(all(symbols_with_tree(len(symbols), productions)))
    return Grammar(symbols, productions)


def symbols_of(read_symbols):
    require(1 <= len(read_symbols) <= MOST_SYMBOLS)
    require(are_different([symbol.name for symbol in read_symbols]))
    symbols = [Symbol(symbol.name, symbol.handed_down, symbol.handed_up) for symbol in read_symbols]
    for symbol in symbols:
        require(len(symbol.attributes) <= MOST_ATTRIBUTES)
        require(are_different(symbol.attributes))
    return symbols


def production_of(read, symbols):
    require(len(read.children) <= MOST_CHILDREN)
    require(len(read.rules) <= MOST_RULES)
    places = [number_named(name, symbols) for name in [read.left] + read.children]
    require(None not in places)
    counts = [len(symbols[symbol].attributes) for symbol in places]
    production = Production(read.name, places, counts)
    for rule in read.rules:
        require(read.is_numbered or not rule.expression.has_own_number)
    draw_rules(production, read.rules, symbols)
    return production


def draw_rules(production, rules, symbols):
    """Draws the arrows of the rules, which must define what is to be defined, each once."""
    defined = {}
    for rule in rules:
        sources = [occurrence_number(production, symbols, told) for told in rule.expression.occurrences]
        if rule.target is not None:
            target = occurrence_number(production, symbols, rule.target)
            require(is_to_be_defined(production, symbols, target) and target not in defined)
            defined[target] = True
            for source in sources:
                production.own_graph[source] = with_arrow(production.own_graph[source], target)
    for number in range(len(production.occurrences)):
        require(number in defined or not is_to_be_defined(production, symbols, number))


def occurrence_number(production, symbols, told):
    """The number of the occurrence that is told by its place and its attribute's name."""
    place = told[0]
    require(place < len(production.places))
    attribute = symbols[production.places[place]].number_of(told[1])
    require(attribute is not None)
    return production.starts[place] + attribute


def is_to_be_defined(production, symbols, number):
    occurrence = production.occurrences[number]
    place = occurrence[0]
    is_down = symbols[production.places[place]].is_handed_down(occurrence[1])
    return is_down == (place > 0)


def symbols_with_tree(count, productions):
    """For each symbol whether it has a tree."""
    has_tree = [False for symbol in range(count)]
    is_growing = True
    while is_growing:
        is_growing = False
        for production in productions:
            left = production.places[0]
            if not has_tree[left] and all([has_tree[child] for child in production.places[1:]]):
                has_tree[left] = True
                is_growing = True
    return has_tree
