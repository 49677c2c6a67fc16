"""Works out families of pairs, and the graphs that they make of productions.

A pair is a tuple of three numbers: its symbol, the attribute that it leads from
and the one that it leads to.
"""

from hangson.graphs import closed, has_arrow, with_arrow

OWN = 0
BELOW = 1
ABOVE = 2
JOINED = 3


class Family:
    """A set of pairs, each with the number of the round that found it (0: none, it is assumed)."""

    def __init__(self, symbols):
        self.found_in = {}
        self.rows = [[0 for attribute in symbol.attributes] for symbol in symbols]

    def add_pair(self, pair, turn):
        self.found_in[pair] = turn
        rows = self.rows[pair[0]]
        rows[pair[1]] = with_arrow(rows[pair[1]], pair[2])

    def last_round(self):
        """The number of the last round that found something; each one before it did too."""
        return max([0] + list(self.found_in.values()))


def is_of_kind(kind, symbols, pair):
    """Whether a family of this kind may have the pair."""
    symbol = symbols[pair[0]]
    from_down = symbol.is_handed_down(pair[1])
    to_down = symbol.is_handed_down(pair[2])
    if kind == BELOW:
        return from_down and not to_down
    if kind == ABOVE:
        return to_down and not from_down
    return True


def joined_graph(production, at_left, at_children, left_out):
    """A production's own arrows and those of one family at place 0 and of one at its children.

    None stands for no family; at the place left_out none has arrows.
    """
    graph = list(production.own_graph)
    for place, symbol in enumerate(production.places):
        family = at_left if place == 0 else at_children
        if family is not None and place != left_out:
            start = production.starts[place]
            for attribute, row in enumerate(family.rows[symbol]):
                graph[start + attribute] = graph[start + attribute] | (row << start)
    return graph


def graph_of_kind(kind, production, families):
    """A production's graph of a kind; families has those that the kind asks for, by their kinds."""
    if kind == OWN:
        return list(production.own_graph)
    if kind == BELOW:
        return joined_graph(production, None, families[BELOW], None)
    if kind == ABOVE:
        return joined_graph(production, families[ABOVE], families[BELOW], None)
    return joined_graph(production, families[JOINED], families[JOINED], None)


def pairs_at(production, place, ways):
    """The pairs that ways from this place to itself make of its symbol."""
    symbol = production.places[place]
    start = production.starts[place]
    numbers = [occurrence[1] for occurrence in production.occurrences if occurrence[0] == place]
    pairs = []
    for one in numbers:
        for other in numbers:
            if has_arrow(ways[start + one], start + other):
                pairs.append((symbol, one, other))
    return pairs


def pairs_from(kind, production, families):
    """The pairs that a production gives to the family of this kind, and others that it can't have."""
    if kind == ABOVE:
        pairs = []
        for place in range(1, len(production.places)):
            graph = joined_graph(production, families[ABOVE], families[BELOW], place)
            pairs.extend(pairs_at(production, place, closed(graph)))
        return pairs
    ways = closed(graph_of_kind(kind, production, families))
    if kind == BELOW:
        return pairs_at(production, 0, ways)
    pairs = []
    for place in range(len(production.places)):
        pairs.extend(pairs_at(production, place, ways))
    return pairs


def new_pairs(kind, grammar, families, touched):
    """What a round finds that the family of this kind doesn't have before it.

    Only productions with a touched symbol, one that has got a pair in the round
    before, are looked at: the others give what they gave then.
    """
    found = {}
    for production in grammar.productions:
        if any([symbol in touched for symbol in production.places]):
            for pair in pairs_from(kind, production, families):
                if pair not in families[kind].found_in and is_of_kind(kind, grammar.symbols, pair):
                    found[pair] = True
    return list(found)


def work_out(kind, grammar, assumed, families):
    """Puts the family of this kind among the families, which have those that it asks for."""
    family = Family(grammar.symbols)
    families[kind] = family
    for pair in assumed:
        if is_of_kind(kind, grammar.symbols, pair):
            family.add_pair(pair, 0)
    turn = 1
    found = new_pairs(kind, grammar, families, list(range(len(grammar.symbols))))
    while len(found) > 0:
        for pair in found:
            family.add_pair(pair, turn)
        turn += 1
        found = new_pairs(kind, grammar, families, [pair[0] for pair in found])
