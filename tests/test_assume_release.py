"""Promise 3, assume, and promise 4, release."""

import unittest

from tests.helper import EXAMPLE, ask, ask_last, assume, graph, load, release

# Five symbols with two attributes each way have eight pairs each that may be assumed.
WIDE = "".join(f"S{k} a b > c e; p{k} S{k}: {{ c = 0; e = 0; }}" for k in range(5))
PAIRS = [(f"S{k}", one, other) for k in range(5) for one, other in (
    ("a", "c"), ("a", "e"), ("b", "c"), ("b", "e"), ("c", "a"), ("c", "b"), ("e", "a"), ("e", "b"))]


class Assume(unittest.TestCase):
    def test_from_below_and_from_above(self):
        told = ask(load(EXAMPLE), assume("E", "d", "v"), assume("E", "v", "d"), graph(1, "E"), graph(2, "E"))
        self.assertEqual(told[1:], [[0], [0], [0, 0, 1], [0, 1, 0]])

    def test_no_grammar_comes_first(self):
        self.assertEqual(ask(assume("E", "d", "v"), assume("", "", "")), [[-4], [-4]])

    def test_no_symbol(self):
        for name in ("", "X", "e", "EE", "top", [69, 0], "E" * 100, [200]):
            self.assertEqual(ask_last(load(EXAMPLE), assume(name, "d", "v")), [-5], name)

    def test_no_symbol_ahead_of_no_attribute(self):
        self.assertEqual(ask_last(load(EXAMPLE), assume("X", "x", "x")), [-5])

    def test_no_attribute(self):
        for one, other in (("x", "v"), ("d", "x"), ("x", "x"), ("", "v"), ("d", ""), ("D", "v"), ("d", "V"), ("d", "vv"),
                           ("d", "v" * 100), ([0], "v"), ("if", "v")):
            self.assertEqual(ask_last(load(EXAMPLE), assume("E", one, other)), [-6], (one, other))
        # S has v, but d is an attribute of E alone.
        self.assertEqual(ask_last(load(EXAMPLE), assume("S", "d", "v")), [-6])

    def test_no_attribute_ahead_of_same_direction(self):
        self.assertEqual(ask_last(load(EXAMPLE), assume("S", "x", "x")), [-6])

    def test_same_direction(self):
        for one, other in (("a", "a"), ("a", "b"), ("b", "a"), ("c", "c"), ("c", "e"), ("e", "c")):
            self.assertEqual(ask_last(load(WIDE), assume("S0", one, other)), [-7], (one, other))

    def test_assumed_already(self):
        told = ask(load(EXAMPLE), assume("E", "d", "v"), assume("E", "d", "v"), assume("E", "v", "d"), assume("E", "v", "d"))
        self.assertEqual(told[1:], [[0], [-8], [0], [-8]])

    def test_a_pair_that_the_family_finds_is_not_assumed(self):
        told = ask(load(EXAMPLE), graph(1, "E"), assume("E", "d", "v"), assume("E", "d", "v"))
        self.assertEqual(told[1:], [[0, 0, 1], [0], [-8]])

    def test_twenty_pairs_and_the_next(self):
        told = ask(load(WIDE), *[assume(*pair) for pair in PAIRS[:22]])
        self.assertEqual(told[1:], [[0]] * 20 + [[-9]] * 2)

    def test_assumed_already_ahead_of_too_many(self):
        told = ask(load(WIDE), *[assume(*pair) for pair in PAIRS[:20]], assume(*PAIRS[0]), assume(*PAIRS[19]),
                   assume("S0", "a", "b"), assume("S0", "a", "x"), assume("X", "a", "b"), assume(*PAIRS[20]))
        self.assertEqual(told[21:], [[-8], [-8], [-7], [-6], [-5], [-9]])

    def test_room_again_after_a_release(self):
        told = ask(load(WIDE), *[assume(*pair) for pair in PAIRS[:20]], assume(*PAIRS[20]), release(*PAIRS[3]),
                   assume(*PAIRS[20]), assume(*PAIRS[21]), assume(*PAIRS[3]))
        self.assertEqual(told[21:], [[-9], [1], [0], [-9], [-9]])

    def test_refused_pairs_are_not_assumed(self):
        told = ask(load(WIDE), assume("S0", "a", "b"), graph(3, "S0"), *[assume(*pair) for pair in PAIRS[:21]],
                   release(*PAIRS[20]), graph(1, "S2"))
        self.assertEqual(told[1:3], [[-7], [0]])
        self.assertEqual(told[-3:], [[-9], [0], [0, 0, 2, 0, 3, 1, 2, 1, 3]])


class Release(unittest.TestCase):
    def test_assumed_or_not(self):
        told = ask(load(EXAMPLE), release("E", "d", "v"), assume("E", "d", "v"), release("E", "v", "d"),
                   release("E", "d", "v"), release("E", "d", "v"), assume("E", "d", "v"))
        self.assertEqual(told[1:], [[0], [0], [0], [1], [0], [0]])

    def test_a_pair_that_the_family_finds_is_not_assumed(self):
        told = ask(load(EXAMPLE), release("E", "d", "v"), graph(1, "E"))
        self.assertEqual(told[1:], [[0], [0, 0, 1]])

    def test_a_released_pair_is_still_found(self):
        told = ask(load(EXAMPLE), assume("E", "d", "v"), release("E", "d", "v"), graph(1, "E"))
        self.assertEqual(told[1:], [[0], [1], [0, 0, 1]])

    def test_pairs_that_no_one_can_assume(self):
        told = ask(load(WIDE), release("S0", "a", "b"), release("S0", "a", "a"), release("S0", "c", "e"))
        self.assertEqual(told[1:], [[0], [0], [0]])

    def test_only_that_pair(self):
        told = ask(load(WIDE), assume("S0", "a", "c"), assume("S1", "a", "c"), assume("S0", "a", "e"),
                   release("S0", "a", "c"), graph(1, "S0"), graph(1, "S1"))
        self.assertEqual(told[4:], [[1], [0, 0, 3], [0, 0, 2]])

    def test_refusals(self):
        self.assertEqual(ask(release("E", "d", "v"), release("", "", "")), [[-4], [-4]])
        told = ask(load(EXAMPLE), release("X", "x", "v"), release("", "d", "v"), release("E", "x", "v"), release("E", "d", "x"),
                   release("E", "", ""), release("S", "d", "v"), release("x" * 100, "d", "v"), release("E", "d" * 100, "v"))
        self.assertEqual(told[1:], [[-5], [-5], [-6], [-6], [-6], [-6], [-5], [-6]])

    def test_refused_releases_change_nothing(self):
        told = ask(load(EXAMPLE), assume("E", "v", "d"), release("X", "v", "d"), release("E", "v", "x"), graph(2, "E"))
        self.assertEqual(told[-1], [0, 1, 0])


if __name__ == "__main__":
    unittest.main()
