"""A second telling of the families, by sets and the document's words alone, to hold the program against.

It shares nothing with the program: grammars are made here at random, as data and as text.
"""


class Model:
    """Symbols are (name, handed down, handed up); productions (name, left, children, equations).

    Left and children are symbols' numbers; equations are a list of
    (target, sources), each occurrence being (place, attribute's number).
    """

    def __init__(self, symbols, productions):
        self.symbols = symbols
        self.productions = productions
        self.assumed = set()
        self.kept = {}

    def attributes(self, symbol):
        return self.symbols[symbol][1] + self.symbols[symbol][2]

    def places(self, production):
        return [production[1]] + production[2]

    def is_down(self, symbol, attribute):
        return attribute < len(self.symbols[symbol][1])

    def is_below(self, pair):
        return self.is_down(pair[0], pair[1]) and not self.is_down(pair[0], pair[2])

    def is_above(self, pair):
        return not self.is_down(pair[0], pair[1]) and self.is_down(pair[0], pair[2])

    def own(self, production):
        return {(source, target) for target, sources in production[3] for source in sources}

    def at(self, family, production, places):
        """The arrows that a family has at these places of a production."""
        symbols = self.places(production)
        return {((place, one), (place, other)) for place in places for symbol, one, other in family if symbol == symbols[place]}

    def children(self, production):
        return list(range(1, len(self.places(production))))

    def look(self, kind, production, family):
        """The pairs that a production gives to a family of this kind, by the family as it is."""
        if kind == 1:
            arrows = self.own(production) | self.at(family, production, self.children(production))
            return {pair for pair in self.ways_at(production, 0, arrows) if self.is_below(pair)}
        if kind == 2:
            below = self.family(1)
            found = set()
            for k in self.children(production):
                others = [place for place in self.children(production) if place != k]
                arrows = self.own(production) | self.at(below, production, others) | self.at(family, production, [0])
                found |= {pair for pair in self.ways_at(production, k, arrows) if self.is_above(pair)}
            return found
        places = range(len(self.places(production)))
        arrows = self.own(production) | self.at(family, production, places)
        return {pair for place in places for pair in self.ways_at(production, place, arrows)}

    def begun(self, kind):
        """The assumed pairs with which a family of this kind begins."""
        if kind == 1:
            return {pair for pair in self.assumed if self.is_below(pair)}
        if kind == 2:
            return {pair for pair in self.assumed if self.is_above(pair)}
        return set(self.assumed)

    def looked(self, kind, family):
        """All that a round finds by this family."""
        found = set()
        for production in self.productions:
            found |= self.look(kind, production, family)
        return found

    def stages(self, kind):
        """The family before its first round, and after each round that found something."""
        kept = self.kept.setdefault(frozenset(self.assumed), {})
        if kind not in kept:
            stages = [self.begun(kind)]
            while not self.looked(kind, stages[-1]) <= stages[-1]:
                stages.append(stages[-1] | self.looked(kind, stages[-1]))
            kept[kind] = stages
        return kept[kind]

    def ways_at(self, production, place, arrows):
        symbol = self.places(production)[place]
        return {(symbol, start[1], end[1]) for start, end in all_ways(arrows) if start[0] == place and end[0] == place}

    def family(self, kind):
        return self.stages(kind)[-1]

    def graph(self, kind, number):
        """The pairs of a symbol, in order."""
        return sorted((one, other) for symbol, one, other in self.family(kind) if symbol == number)

    def arrows(self, kind, production):
        """The arrows of a production's graph of this kind."""
        arrows = self.own(production)
        if kind in (1, 2):
            arrows = arrows | self.at(self.family(1), production, self.children(production))
        if kind == 2:
            arrows = arrows | self.at(self.family(2), production, [0])
        if kind == 3:
            arrows = arrows | self.at(self.family(3), production, range(len(self.places(production))))
        return arrows

    def closure(self, kind, number):
        return sorted(all_ways(self.arrows(kind, self.productions[number])))

    def is_free(self, kind):
        return not any(first_circle(self.arrows(kind, production)) for production in self.productions)

    def verdict(self):
        return [0] + [int(self.is_free(kind)) for kind in range(4)]

    def circle(self, kind):
        for number, production in enumerate(self.productions):
            found = first_circle(self.arrows(kind, production))
            if found:
                return [0, number, len(found)] + flat(found)
        return [1]

    def way(self, kind, number, start, end):
        found = first_way(self.arrows(kind, self.productions[number]), start, end)
        return [0, len(found)] + flat(found)

    def why(self, pair):
        stages = self.stages(1)
        if pair not in stages[-1]:
            return [-13]
        turn = [pair in family for family in stages].index(True)
        if turn == 0:
            return [0, 0]
        for number, production in enumerate(self.productions):
            if production[1] == pair[0] and pair in self.look(1, production, stages[turn - 1]):
                arrows = self.own(production) | self.at(stages[turn - 1], production, self.children(production))
                found = first_way(arrows, (0, pair[1]), (0, pair[2]))
                return [0, turn, number, len(found)] + flat(found)
        raise AssertionError(f"no production gives {pair}")

    def spread(self, symbol, attribute):
        at_once = set()
        for production in self.productions:
            symbols = self.places(production)
            at_once |= {((symbols[u[0]], u[1]), (symbols[v[0]], v[1])) for u, v in self.own(production)}
        return [0] + flat(sorted(end for start, end in all_ways(at_once) if start == (symbol, attribute)))

    def rounds(self):
        return [0] + [len(self.stages(kind)) - 1 for kind in (1, 2, 3)]

    def occurrences(self, production):
        symbols = self.places(production)
        return [(place, k) for place, symbol in enumerate(symbols) for k in range(len(self.attributes(symbol)))]

    def text(self):
        parts = []
        for name, handed_down, handed_up in self.symbols:
            parts.append(f"{name} {' '.join(handed_down)} > {' '.join(handed_up)};")
        for production in self.productions:
            children = " ".join(self.symbols[child][0] for child in production[2])
            rules = []
            for target, sources in production[3]:
                said = "+".join(self.told(production, source) for source in sources) or "0"
                rules.append(f"{self.told(production, target)}={said};")
            parts.append(f"{production[0]} {self.symbols[production[1]][0]}:{children}{{{''.join(rules)}}}")
        return "\n".join(parts)

    def told(self, production, occurrence):
        place, attribute = occurrence
        name = self.attributes(self.places(production)[place])[attribute]
        return name if place == 0 else f"{place}.{name}"


def all_ways(arrows):
    """All (start, end) between which a way leads, each start walked from by itself."""
    onward = {}
    for start, end in arrows:
        onward.setdefault(start, []).append(end)
    found = set()
    for start in onward:
        waiting = list(onward[start])
        while waiting:
            end = waiting.pop()
            if (start, end) not in found:
                found.add((start, end))
                waiting.extend(onward.get(end, []))
    return found


def flat(twos):
    return [number for two in twos for number in two]


def onward_lists(lists, arrows):
    """Each list with one occurrence more, to which an arrow leads from its last one."""
    return [before + [end] for before in lists for start, end in arrows if before[-1] == start]


def first_way(arrows, start, end):
    """All ways of length 1, then of length 2 and so on are written down, till one comes to the end."""
    if (start, end) not in all_ways(arrows):
        return []
    lists = onward_lists([[start]], arrows)
    while not any(way[-1] == end for way in lists):
        lists = onward_lists(lists, arrows)
    return min(way for way in lists if way[-1] == end)


def first_circle(arrows):
    """All lists of 1 occurrence, of 2 different ones and so on are written down, till one is a circle."""
    if not any(start == end for start, end in all_ways(arrows)):
        return []
    lists = [[start] for start in {start for start, end in arrows}]
    while not any((circle[-1], circle[0]) in arrows for circle in lists):
        lists = [further for further in onward_lists(lists, arrows) if len(set(further)) == len(further)]
    return min(circle for circle in lists if (circle[-1], circle[0]) in arrows)


class Style:
    """How grammars are drawn: how many symbols, how many sources an equation has, how often a source is wild, how deep.

    A source that isn't wild is an occurrence that isn't to be defined, so that
    a production's own arrows make no circle, and circles come by families alone.
    In deep grammars values go through children where there are some, and
    symbols have the next ones as children, so that families take many rounds.
    """

    def __init__(self, most_symbols, counts, wild, is_deep):
        self.most_symbols = most_symbols
        self.counts = counts
        self.wild = wild
        self.is_deep = is_deep


FEW = Style(5, (0, 0, 1, 1, 1, 2), 1, False)
MANY = Style(5, (1, 2, 3, 4), 1, False)
CALM = Style(8, (0, 1, 1, 1, 1, 2), 0.02, False)
DEEP = Style(8, (0, 1, 1, 1, 1, 1, 1, 2), 0.02, True)


def random_model(rng, style=FEW):
    """A grammar in which each symbol has a tree."""
    symbols = []
    for number in range(rng.randint(1, style.most_symbols)):
        names = ["a", "b", "c", "e"][:rng.randint(2 if style.is_deep else 0, 4)]
        rng.shuffle(names)
        cut = len(names) // 2 if style.is_deep else rng.randint(0, len(names))
        symbols.append(("S" + str(number), names[:cut], names[cut:]))
    model = Model(symbols, [])
    for number in range(rng.randint(len(symbols), len(symbols) + 4)):
        left = number if number < len(symbols) else rng.randrange(len(symbols))
        children = random_children(rng, model, left, number < len(symbols), style)
        equations = random_equations(rng, model, [left] + children, style)
        model.productions.append(("p" + str(number), left, children, equations))
    return model


def random_children(rng, model, left, is_first, style):
    # The first production of each symbol has children behind it alone, the last of them none.
    allowed = list(range(left + 1 if is_first else 0, len(model.symbols)))
    if style.is_deep and is_first:
        allowed = allowed[:2]
    fewest = 1 if style.is_deep else 0
    return [rng.choice(allowed) for k in range(rng.randint(fewest, 3 - fewest))] if allowed else []


def random_equations(rng, model, places, style):
    occurrences = [(place, k) for place, symbol in enumerate(places) for k in range(len(model.attributes(symbol)))]
    targets = [(place, k) for place, k in occurrences if model.is_down(places[place], k) == (place > 0)]
    calm = [occurrence for occurrence in occurrences if occurrence not in targets]
    equations = []
    for target in targets:
        sources = []
        far = [source for source in calm if source[0] != target[0]]
        for k in range(rng.choice(style.counts)):
            choices = far if style.is_deep and far else calm
            choices = occurrences if rng.random() < style.wild else choices
            sources.extend(rng.sample(choices, min(1, len(choices))))
        equations.append((target, sources))
    rng.shuffle(equations)
    return equations


def assumable(model):
    """All pairs that may be assumed."""
    pairs = []
    for symbol in range(len(model.symbols)):
        count = len(model.attributes(symbol))
        for one in range(count):
            pairs.extend((symbol, one, other) for other in range(count))
    return [pair for pair in pairs if model.is_below(pair) or model.is_above(pair)]


def random_tree(rng, model, symbol, height):
    """A tree of a symbol: a production's number and trees of its children."""
    choices = [number for number, production in enumerate(model.productions) if production[1] == symbol]
    # The first production of each symbol, which has the symbol's number, leads to an end.
    number = rng.choice(choices) if height > 0 else symbol
    return (number, [random_tree(rng, model, child, height - 1) for child in model.productions[number][2]])


def waits_for_itself(model, tree):
    """Whether in the tree some attribute's value at some node waits for itself; nodes are lists of children's places."""
    arrows = set()
    waiting = [((), tree)]
    while waiting:
        node, (number, children) = waiting.pop()
        nodes = [node] + [node + (k,) for k in range(1, len(children) + 1)]
        arrows |= {((nodes[u[0]], u[1]), (nodes[v[0]], v[1])) for u, v in model.own(model.productions[number])}
        waiting.extend(zip(nodes[1:], children))
    return any(start == end for start, end in all_ways(arrows))
