"""Promise 12, rounds: how many rounds found something new in each family."""

import unittest

from tests.helper import EXAMPLE, ask, ask_last, assume, load, release, rounds
from tests.test_graph import CHAIN, OPEN_CHAIN, TURNED


class Rounds(unittest.TestCase):
    def test_the_example(self):
        self.assertEqual(ask_last(load(EXAMPLE), rounds()), [0, 1, 0, 1])

    def test_none(self):
        for text in ("S > ; s S: {}", OPEN_CHAIN, "S > v; s S: { v = 0; }"):
            self.assertEqual(ask_last(load(text), rounds()), [0, 0, 0, 0], text)

    def test_from_below(self):
        self.assertEqual(ask_last(load(CHAIN), rounds()), [0, 4, 0, 4])

    def test_productions_in_another_order(self):
        # A round looks at the family as it was before, so the order of the productions is no matter.
        text = "e D: { v = d; } c C: D { v = 1.v; 1.d = d; } " + CHAIN.replace("e D: { v = d; }", "").replace(
            "c C: D { v = 1.v; 1.d = d; }", "")
        self.assertEqual(ask_last(load(text), rounds()), [0, 4, 0, 4])

    def test_from_above(self):
        self.assertEqual(ask_last(load(TURNED), rounds()), [0, 0, 4, 4])

    def test_from_above_when_from_below_is_done(self):
        # The four rounds from below are over before the first from above, which so finds the pair of A at once.
        text = CHAIN + "T > v; t T: A A { v = 0; 1.d = 2.v; 2.d = 1.v; }"
        self.assertEqual(ask_last(load(text), rounds()), [0, 4, 4, 8])

    def test_joined_alone(self):
        self.assertEqual(ask_last(load("S > v; s S: { v = v; }"), rounds()), [0, 0, 0, 1])
        # From b to e it takes the pairs from b to c and from c to e at one place, which round 1 brings from two productions.
        text = "S > b c e; s S: { b = 0; c = b; e = 0; } t S: { b = 0; c = 0; e = c; }"
        self.assertEqual(ask_last(load(text), rounds()), [0, 0, 0, 2])

    def test_all_different(self):
        # Joined, the pair of B from below comes in round 3, that from above in round 4, and then those of C and of D.
        text = CHAIN + "T > v; t T: B B { v = 0; 1.d = 2.v; 2.d = 1.v; }"
        self.assertEqual(ask_last(load(text), rounds()), [0, 4, 3, 6])


class Assumed(unittest.TestCase):
    def test_the_example(self):
        told = ask(load(EXAMPLE), assume("E", "v", "d"), rounds(), release("E", "v", "d"), rounds(), assume("E", "d", "v"),
                   rounds())
        # The pair from d to v, once assumed, is found by no round.
        self.assertEqual(told[2::2], [[0, 1, 0, 1], [0, 1, 0, 1], [0, 0, 0, 0]])

    def test_pairs_from_below(self):
        for symbol, wanted in (("A", [0, 3, 0, 3]), ("B", [0, 2, 0, 2]), ("C", [0, 2, 0, 2]), ("D", [0, 3, 0, 3])):
            told = ask(load(CHAIN), assume(symbol, "d", "v"), rounds(), release(symbol, "d", "v"), rounds())
            self.assertEqual(told[2::2], [wanted, [0, 4, 0, 4]], symbol)

    def test_pairs_from_above(self):
        told = ask(load(OPEN_CHAIN), assume("B", "v", "d"), rounds(), assume("A", "v", "d"), rounds(),
                   release("B", "v", "d"), rounds())
        self.assertEqual(told[2::2], [[0, 0, 2, 2], [0, 0, 2, 2], [0, 0, 3, 3]])

    def test_assumed_pairs_alone_are_no_round(self):
        told = ask(load("S a > v; s S: { v = 0; }"), assume("S", "a", "v"), rounds(), assume("S", "v", "a"), rounds())
        self.assertEqual(told[2::2], [[0, 0, 0, 0], [0, 0, 0, 1]])


class Refusals(unittest.TestCase):
    def test_no_grammar(self):
        self.assertEqual(ask(rounds(), load("x"), rounds()), [[-4], [-2], [-4]])


if __name__ == "__main__":
    unittest.main()
