"""Promises 7 to 12 on many drawn grammars, with pairs assumed and released between, held against a second telling."""

import random
import unittest

from tests.helper import ask, changed, circle, load, names_of, rounds, spread, verdict, way, why
from tests.naive import CALM, DEEP, FEW, MANY, assumable, random_model


def some(rng, choices, count):
    return rng.sample(choices, min(count, len(choices)))


def ways_asked(rng, model):
    choices = [(kind, number, start, end) for kind in range(4) for number, production in enumerate(model.productions)
               for start in model.occurrences(production) for end in model.occurrences(production)]
    return [(way(kind, start, end, model.productions[number][0]), model.way(kind, number, start, end))
            for kind, number, start, end in some(rng, choices, 40)]


def reasons_asked(rng, model):
    counts = [len(model.attributes(symbol)) for symbol in range(len(model.symbols))]
    others = [(symbol, one, other) for symbol, count in enumerate(counts) for one in range(count) for other in range(count)]
    pairs = some(rng, sorted(model.family(1)), 20) + some(rng, others, 5)
    return [(why(*names_of(model, pair)), model.why(pair)) for pair in pairs]


def spreads_asked(rng, model):
    choices = [(symbol, attribute) for symbol in range(len(model.symbols)) for attribute in range(len(model.attributes(symbol)))]
    return [(spread(model.symbols[symbol][0], model.attributes(symbol)[attribute]), model.spread(symbol, attribute))
            for symbol, attribute in some(rng, choices, 8)]


def all_asked(rng, model):
    """Calls and what the model answers, as pairs."""
    asked = [(verdict(), model.verdict()), (rounds(), model.rounds())]
    asked.extend((circle(kind), model.circle(kind)) for kind in range(4))
    asked.extend(ways_asked(rng, model) + reasons_asked(rng, model) + spreads_asked(rng, model))
    rng.shuffle(asked)
    return asked


class Drawn(unittest.TestCase):
    def hold(self, seeds, style):
        for seed in seeds:
            rng = random.Random(seed)
            model = random_model(rng, style)
            asked = [(load(model.text()), [0, len(model.symbols), len(model.productions)])]
            for step in range(4):
                asked.extend(all_asked(rng, model))
                asked.extend(changed(rng, model) for k in range(rng.randint(1, 3) if assumable(model) else 0))
            told = ask(*[call for call, want in asked])
            for (call, want), answer in zip(asked, told):
                self.assertEqual(answer, want, (seed, model.text(), call))

    def test_few_arrows(self):
        self.hold(range(1000, 1040), FEW)

    def test_many_arrows(self):
        self.hold(range(2000, 2060), MANY)

    def test_circles_by_families(self):
        self.hold(range(3000, 3060), CALM)

    def test_many_rounds(self):
        self.hold(range(4000, 4080), DEEP)


if __name__ == "__main__":
    unittest.main()
