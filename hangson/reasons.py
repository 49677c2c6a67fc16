"""Why a pair is in the family from below."""

from hangson.families import Family, joined_graph
from hangson.ways import first_way


def family_before(turn, grammar, family):
    """The family as it was before the round of this number."""
    before = Family(grammar.symbols)
    for pair, found in family.found_in.items():
        if found < turn:
            before.add_pair(pair, found)
    return before


def reason_of(pair, grammar, family):
    """The first production that gives the pair in the round that found it, and the first way by which it does.

    The production is told by its number, the way by the numbers of its
    occurrences; the pair is one that a round has found.
    """
    before = family_before(family.found_in[pair], grammar, family)
    ways = [way_for(pair, production, before) for production in grammar.productions]
    number = [len(way) > 0 for way in ways].index(True)
    return (number, ways[number])


def way_for(pair, production, below):
    """The first way by which the production gives the pair from below, or an empty list if it doesn't."""
    if production.places[0] != pair[0]:
        return []
    graph = joined_graph(production, None, below, None)
    start = production.starts[0]
    return first_way(graph, start + pair[1], start + pair[2])
