"""The document's own example, with all its numbers."""

import unittest

from tests.helper import (
    EXAMPLE, arrows, ask, assume, circle, closure, graph, load, release, rounds, spread, verdict, way, why,
)

FREE = [[0, 1, 1, 1, 1], [1], [1], [1], [1]]
REASON = [0, 1, 1, 2, 0, 0, 0, 1]


def freedom():
    return [verdict(), circle(0), circle(1), circle(2), circle(3)]


class Example(unittest.TestCase):
    def test_symbols_productions_and_arrows(self):
        told = ask(load(EXAMPLE), arrows("top"), arrows("lit"), arrows("add"))
        self.assertEqual(told, [
            [0, 2, 3], [0, 1, 1, 0, 0], [0, 0, 0, 0, 1],
            [0, 0, 0, 1, 0, 0, 0, 2, 0, 1, 1, 0, 1, 2, 1, 0, 1]])

    def test_families_rounds_and_reasons(self):
        told = ask(load(EXAMPLE), *[graph(kind, symbol) for kind in (1, 2, 3) for symbol in "SE"], rounds(),
                   why("E", "d", "v"), why("E", "v", "d"), why("S", "v", "v"))
        self.assertEqual(told[1:], [[0], [0, 0, 1], [0], [0], [0], [0, 0, 1], [0, 1, 0, 1], REASON, [-13], [-13]])

    def test_free_of_all_kinds(self):
        self.assertEqual(ask(load(EXAMPLE), *freedom())[1:], FREE)

    def test_the_pair_from_above_assumed(self):
        told = ask(load(EXAMPLE), assume("E", "v", "d"), *freedom(), rounds(), graph(1, "E"), graph(2, "E"), graph(3, "E"),
                   why("E", "d", "v"), way(2, (0, 0), (0, 0), "lit"), way(3, (1, 0), (1, 0), "top"), closure(2, "top"))
        self.assertEqual(told[1:], [
            [0], [0, 1, 1, 0, 0], [1], [1], [0, 1, 2, 0, 0, 0, 1], [0, 0, 1, 1, 0], [0, 1, 0, 1], [0, 0, 1], [0, 1, 0],
            [0, 0, 0, 0, 1, 1, 0, 1, 1], REASON, [0, 3, 0, 0, 0, 1, 0, 0], [0, 2, 1, 0, 1, 0],
            [0, 1, 0, 0, 0, 1, 0, 1, 1, 1, 1, 0, 0]])

    def test_released_again(self):
        told = ask(load(EXAMPLE), assume("E", "v", "d"), *freedom(), release("E", "v", "d"), *freedom(), rounds())
        self.assertEqual(told[7:], [[1]] + FREE + [[0, 1, 0, 1]])

    def test_ways_and_spreading(self):
        told = ask(load(EXAMPLE), way(0, (0, 0), (0, 1), "add"), way(1, (0, 0), (0, 1), "add"), way(3, (0, 0), (0, 1), "add"),
                   way(1, (1, 0), (0, 0), "top"), way(1, (0, 0), (1, 0), "top"), spread("S", "v"), spread("E", "d"),
                   spread("E", "v"))
        self.assertEqual(told[1:], [
            [0, 0], [0, 4, 0, 0, 1, 0, 1, 1, 0, 1], [0, 2, 0, 0, 0, 1], [0, 3, 1, 0, 1, 1, 0, 0], [0, 0], [0],
            [0, 0, 0, 1, 0, 1, 1], [0, 0, 0, 1, 1]])


if __name__ == "__main__":
    unittest.main()
