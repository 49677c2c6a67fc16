"""What an attribute spreads to.

An attribute is told by a tuple of its symbol's number and its own.
"""

from hangson.graphs import closed, has_arrow, with_arrow


def attributes_of(grammar):
    """All attributes, in order."""
    told = []
    for number, symbol in enumerate(grammar.symbols):
        told.extend([(number, attribute) for attribute in range(len(symbol.attributes))])
    return told


def attribute_numbers(production, attributes):
    """For each occurrence of a production the number of its attribute among all attributes."""
    told = [(production.places[place], attribute) for place, attribute in production.occurrences]
    return [attributes.index(attribute) for attribute in told]


def spread_at_once(grammar, attributes):
    """The graph of what spreads to what at once, by the attributes' numbers."""
    graph = [0 for attribute in attributes]
    for production in grammar.productions:
        numbers = attribute_numbers(production, attributes)
        for start, row in enumerate(production.own_graph):
            for target, number in enumerate(numbers):
                if has_arrow(row, target):
                    graph[numbers[start]] = with_arrow(graph[numbers[start]], number)
    return graph


def spread_from(grammar, attribute):
    """The attributes that this one spreads to, in order."""
    attributes = attributes_of(grammar)
    row = closed(spread_at_once(grammar, attributes))[attributes.index(attribute)]
    return [other for number, other in enumerate(attributes) if has_arrow(row, number)]
