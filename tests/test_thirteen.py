"""Promise 13, whatever calls came: least families, the joined one, the order of the kinds, and trees without circles."""

import random
import unittest

from tests.helper import ask, changed, graph, load, twos, verdict
from tests.naive import CALM, DEEP, FEW, MANY, assumable, random_model, random_tree, waits_for_itself

STYLES = (FEW, MANY, CALM, DEEP, DEEP, CALM)


def drawn(seed):
    """A drawn grammar, and the calls that load it and then assume and release pairs."""
    rng = random.Random(seed)
    model = random_model(rng, STYLES[seed % len(STYLES)])
    calls = [load(model.text())]
    for k in range(rng.randint(0, 6) if assumable(model) else 0):
        calls.append(changed(rng, model)[0])
    return rng, model, calls


def told_families(model, calls):
    """The three families as the program tells them, by their kinds."""
    asked = [(kind, number) for kind in (1, 2, 3) for number in range(len(model.symbols))]
    told = ask(*calls, *[graph(kind, model.symbols[number][0]) for kind, number in asked])
    families = {1: set(), 2: set(), 3: set()}
    for (kind, number), answer in zip(asked, told[len(calls):]):
        families[kind] |= {(number, one, other) for one, other in twos(answer)}
    return families


def grown_by_single_pairs(rng, model, kind):
    """The least family, but with no rounds: one pair at a time, by whatever production comes."""
    family = model.begun(kind)
    is_growing = True
    while is_growing:
        is_growing = False
        for production in rng.sample(model.productions, len(model.productions)):
            found = sorted(model.look(kind, production, family) - family)
            if found:
                family.add(rng.choice(found))
                is_growing = True
    return family


class Families(unittest.TestCase):
    def test_assumed_pairs_and_nothing_new(self):
        for seed in range(120):
            rng, model, calls = drawn(seed)
            families = told_families(model, calls)
            for kind in (1, 2, 3):
                self.assertLessEqual(model.begun(kind), families[kind], model.text())
                self.assertLessEqual(model.looked(kind, families[kind]), families[kind], model.text())

    def test_the_least(self):
        for seed in range(120, 240):
            rng, model, calls = drawn(seed)
            families = told_families(model, calls)
            for kind in (1, 2, 3):
                self.assertEqual(families[kind], grown_by_single_pairs(rng, model, kind), model.text())

    def test_the_joined_family_has_all_pairs_of_the_others(self):
        for seed in range(240, 500):
            rng, model, calls = drawn(seed)
            families = told_families(model, calls)
            self.assertLessEqual(families[1] | families[2], families[3], model.text())


class Kinds(unittest.TestCase):
    def test_free_of_one_kind_and_of_those_before(self):
        seen = []
        for seed in range(500, 1100):
            rng, model, calls = drawn(seed)
            seen.append(ask(*calls, verdict())[-1])
        allowed = [[0] + [1] * k + [0] * (4 - k) for k in range(5)]
        self.assertEqual(sorted(set(map(tuple, seen))), sorted(map(tuple, allowed)))


class Trees(unittest.TestCase):
    def test_no_value_waits_for_itself_in_a_grammar_free_of_kind_1(self):
        circles = {0: 0, 1: 0}
        trees = {0: 0, 1: 0}
        for seed in range(1100, 1500):
            rng, model, calls = drawn(seed)
            is_free = ask(*calls, verdict())[-1][2]
            for k in range(6):
                tree = random_tree(rng, model, rng.randrange(len(model.symbols)), 3)
                trees[is_free] += 1
                circles[is_free] += waits_for_itself(model, tree)
        self.assertEqual(circles[1], 0)
        # Both kinds of grammars were there, and there were circles that could have been seen.
        self.assertGreater(min(trees.values()), 300)
        self.assertGreater(circles[0], 100)


if __name__ == "__main__":
    unittest.main()
