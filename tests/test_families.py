"""Promises 2 to 6 on many drawn grammars, held against a second telling by sets; and the rounds that families keep."""

import random
import unittest

from hangson.families import ABOVE, BELOW, JOINED
from hangson.holder import Holder
from tests.helper import EXAMPLE, arrows, ask, changed, closure, fours, graph, load, twos
from tests.naive import CALM, DEEP, FEW, assumable, random_model


def all_asked(model):
    """Calls that ask for all arrows, pairs and closures, and what the model answers."""
    calls = []
    wanted = []
    for number, production in enumerate(model.productions):
        calls.append(arrows(production[0]))
        wanted.append(sorted(model.own(production)))
        for kind in range(4):
            calls.append(closure(kind, production[0]))
            wanted.append(model.closure(kind, number))
    for number, symbol in enumerate(model.symbols):
        for kind in (1, 2, 3):
            calls.append(graph(kind, symbol[0]))
            wanted.append(model.graph(kind, number))
    return calls, wanted


def understood(call, answer):
    return twos(answer) if call[0] == 4 else fours(answer)


class Random(unittest.TestCase):
    def test_all_answers(self):
        for seed in range(150):
            rng = random.Random(seed)
            model = random_model(rng, (FEW, CALM, DEEP)[seed % 3])
            calls = [load(model.text())]
            wanted = [[0, len(model.symbols), len(model.productions)]]
            for step in range(4):
                asked, told = all_asked(model)
                calls.extend(asked)
                wanted.extend(told)
                for k in range(rng.randint(1, 3) if assumable(model) else 0):
                    call, answer = changed(rng, model)
                    calls.append(call)
                    wanted.append(answer)
            told = ask(*calls)
            for call, answer, want in zip(calls, told, wanted):
                if call[0] in (1, 4, 5):
                    answer = understood(call, answer)
                self.assertEqual(answer, want, (seed, model.text(), call))


class Rounds(unittest.TestCase):
    """Families keep the round that found each pair, by which reasons are told."""

    def found_in(self, text, *assumed):
        holder = Holder()
        holder.load(text.encode())
        for pair in assumed:
            holder.assume(*[tuple(name.encode()) for name in pair])
        for kind in (BELOW, ABOVE, JOINED):
            holder.require_families(kind)
        return [holder.families[kind].found_in for kind in (BELOW, ABOVE, JOINED)]

    def test_the_example(self):
        self.assertEqual(self.found_in(EXAMPLE), [{(1, 0, 1): 1}, {}, {(1, 0, 1): 1}])
        self.assertEqual(self.found_in(EXAMPLE, ("E", "v", "d")), [
            {(1, 0, 1): 1}, {(1, 1, 0): 0}, {(1, 1, 0): 0, (1, 0, 1): 1, (1, 0, 0): 1, (1, 1, 1): 1}])

    def test_a_round_sees_the_family_as_it_was_before(self):
        # Though c stands first and a last, each round gets one symbol farther.
        text = "A d > v; B d > v; C d > v; c C: { v = d; } b B: C { v = 1.v; 1.d = d; } a A: B { v = 1.v; 1.d = d; }"
        self.assertEqual(self.found_in(text)[0], {(2, 0, 1): 1, (1, 0, 1): 2, (0, 0, 1): 3})
        self.assertEqual(self.found_in(text, ("B", "d", "v"))[0], {(1, 0, 1): 0, (2, 0, 1): 1, (0, 0, 1): 1})


if __name__ == "__main__":
    unittest.main()
