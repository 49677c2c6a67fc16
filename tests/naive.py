"""A second telling of the families, by sets and the document's words alone, to hold the program against.

It shares nothing with the program: grammars are made here at random, as data and as text.
"""


class Model:
    """Symbols are (name, handed down, handed up); productions (name, left, children, equations).

    Left and children are symbols' numbers; equations are a list of
    (target, sources), each occurrence being (place, attribute's number).
    """

    def __init__(self, symbols, productions):
        self.symbols = symbols
        self.productions = productions
        self.assumed = set()

    def attributes(self, symbol):
        return self.symbols[symbol][1] + self.symbols[symbol][2]

    def places(self, production):
        return [production[1]] + production[2]

    def is_down(self, symbol, attribute):
        return attribute < len(self.symbols[symbol][1])

    def is_below(self, pair):
        return self.is_down(pair[0], pair[1]) and not self.is_down(pair[0], pair[2])

    def is_above(self, pair):
        return not self.is_down(pair[0], pair[1]) and self.is_down(pair[0], pair[2])

    def own(self, production):
        return {(source, target) for target, sources in production[3] for source in sources}

    def at(self, family, production, places):
        """The arrows that a family has at these places of a production."""
        symbols = self.places(production)
        return {((place, one), (place, other)) for place in places for symbol, one, other in family if symbol == symbols[place]}

    def children(self, production):
        return list(range(1, len(self.places(production))))

    def below(self):
        def look(production, family):
            arrows = self.own(production) | self.at(family, production, self.children(production))
            return {pair for pair in self.ways_at(production, 0, arrows) if self.is_below(pair)}
        return self.grown({pair for pair in self.assumed if self.is_below(pair)}, look)

    def above(self):
        below = self.below()

        def look(production, family):
            found = set()
            for k in self.children(production):
                others = [place for place in self.children(production) if place != k]
                arrows = self.own(production) | self.at(below, production, others) | self.at(family, production, [0])
                found |= {pair for pair in self.ways_at(production, k, arrows) if self.is_above(pair)}
            return found
        return self.grown({pair for pair in self.assumed if self.is_above(pair)}, look)

    def joined(self):
        def look(production, family):
            places = range(len(self.places(production)))
            arrows = self.own(production) | self.at(family, production, places)
            return {pair for place in places for pair in self.ways_at(production, place, arrows)}
        return self.grown(set(self.assumed), look)

    def grown(self, family, look):
        while True:
            found = set()
            for production in self.productions:
                found |= look(production, family)
            if found <= family:
                return family
            family = family | found

    def ways_at(self, production, place, arrows):
        symbol = self.places(production)[place]
        return {(symbol, start[1], end[1]) for start, end in all_ways(arrows) if start[0] == place and end[0] == place}

    def family(self, kind):
        return {1: self.below, 2: self.above, 3: self.joined}[kind]()

    def graph(self, kind, number):
        """The pairs of a symbol, in order."""
        return sorted((one, other) for symbol, one, other in self.family(kind) if symbol == number)

    def closure(self, kind, number):
        production = self.productions[number]
        arrows = self.own(production)
        if kind in (1, 2):
            arrows = arrows | self.at(self.below(), production, self.children(production))
        if kind == 2:
            arrows = arrows | self.at(self.above(), production, [0])
        if kind == 3:
            arrows = arrows | self.at(self.joined(), production, range(len(self.places(production))))
        return sorted(all_ways(arrows))

    def text(self):
        parts = []
        for name, handed_down, handed_up in self.symbols:
            parts.append(f"{name} {' '.join(handed_down)} > {' '.join(handed_up)};")
        for production in self.productions:
            children = " ".join(self.symbols[child][0] for child in production[2])
            rules = []
            for target, sources in production[3]:
                said = "+".join(self.told(production, source) for source in sources) or "0"
                rules.append(f"{self.told(production, target)}={said};")
            parts.append(f"{production[0]} {self.symbols[production[1]][0]}:{children}{{{''.join(rules)}}}")
        return "\n".join(parts)

    def told(self, production, occurrence):
        place, attribute = occurrence
        name = self.attributes(self.places(production)[place])[attribute]
        return name if place == 0 else f"{place}.{name}"


def all_ways(arrows):
    """All (start, end) between which a way leads, each start walked from by itself."""
    onward = {}
    for start, end in arrows:
        onward.setdefault(start, []).append(end)
    found = set()
    for start in onward:
        waiting = list(onward[start])
        while waiting:
            end = waiting.pop()
            if (start, end) not in found:
                found.add((start, end))
                waiting.extend(onward.get(end, []))
    return found


def random_model(rng):
    """A grammar in which each symbol has a tree, with few sources, so that families stay apart."""
    symbols = []
    for number in range(rng.randint(1, 5)):
        names = ["a", "b", "c", "e"][:rng.randint(0, 4)]
        rng.shuffle(names)
        cut = rng.randint(0, len(names))
        symbols.append(("S" + str(number), names[:cut], names[cut:]))
    model = Model(symbols, [])
    for number in range(rng.randint(len(symbols), 9)):
        left = number if number < len(symbols) else rng.randrange(len(symbols))
        # The first production of each symbol has children behind it alone, the last of them none.
        allowed = list(range(left + 1, len(symbols))) if number < len(symbols) else list(range(len(symbols)))
        children = [rng.choice(allowed) for k in range(rng.randint(0, 3))] if allowed else []
        model.productions.append(("p" + str(number), left, children, random_equations(rng, model, [left] + children)))
    return model


def random_equations(rng, model, places):
    occurrences = [(place, k) for place, symbol in enumerate(places) for k in range(len(model.attributes(symbol)))]
    equations = []
    for place, attribute in occurrences:
        if model.is_down(places[place], attribute) == (place > 0):
            count = rng.choice([0, 0, 1, 1, 1, 2])
            equations.append(((place, attribute), [rng.choice(occurrences) for k in range(count)]))
    rng.shuffle(equations)
    return equations


def assumable(model):
    """All pairs that may be assumed."""
    pairs = []
    for symbol in range(len(model.symbols)):
        count = len(model.attributes(symbol))
        for one in range(count):
            pairs.extend((symbol, one, other) for other in range(count))
    return [pair for pair in pairs if model.is_below(pair) or model.is_above(pair)]
