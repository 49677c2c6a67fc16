"""Promise 10, why: the round of a pair from below, and its reason."""

import unittest

from tests.helper import EXAMPLE, ask, ask_last, assume, graph, load, release, why
from tests.test_graph import CHAIN, OPEN_CHAIN

# S is given its pair in round 2 by the long way through A twice, whose pair lit gives in round 1. The short way through C
# is there a round later, since C takes its pair from A.
LATE = """
    A d > v; C d > v; S d > v;
    lit A: { v = d; }
    hop C: A { 1.d = d; v = 1.v; }
    s S: A A C { 1.d = d; 2.d = 1.v; 3.d = d; v = 2.v + 3.v; }
"""
THROUGH = [0, 0, 1, 0, 1, 1, 0, 1]


class Why(unittest.TestCase):
    def test_the_example(self):
        self.assertEqual(ask_last(load(EXAMPLE), why("E", "d", "v")), [0, 1, 1, 2, 0, 0, 0, 1])

    def test_each_round(self):
        told = ask(load(CHAIN), *[why(symbol, "d", "v") for symbol in "DCBA"])
        self.assertEqual(told[1:], [[0, 1, 3, 2, 0, 0, 0, 1], [0, 2, 2, 4] + THROUGH, [0, 3, 1, 4] + THROUGH,
                                    [0, 4, 0, 4] + THROUGH])

    def test_the_production_of_that_round(self):
        # p, which stands first, gives the pair too, but a round later.
        text = "A d > v; S d > v; p S: A { 1.d = d; v = 1.v; } q S: { v = d; } lit A: { v = d; }"
        self.assertEqual(ask_last(load(text), why("S", "d", "v")), [0, 1, 1, 2, 0, 0, 0, 1])

    def test_the_first_of_several_in_that_round(self):
        text = """
            A d > v; S d > v; lit A: { v = d; } none S: { v = 0; }
            p S: A A { 1.d = d; 2.d = 1.v; v = 2.v; } q S: A { 1.d = d; v = 1.v; }
        """
        self.assertEqual(ask_last(load(text), why("S", "d", "v")), [0, 2, 2, 6, 0, 0, 1, 0, 1, 1, 2, 0, 2, 1, 0, 1])
        text = "S d > v; none S: { v = 0; } p S: { v = d; } q S: { v = d; }"
        self.assertEqual(ask_last(load(text), why("S", "d", "v")), [0, 1, 1, 2, 0, 0, 0, 1])

    def test_the_family_as_it_was_before_the_round(self):
        self.assertEqual(ask_last(load(LATE), why("S", "d", "v")), [0, 2, 2, 6, 0, 0, 1, 0, 1, 1, 2, 0, 2, 1, 0, 1])
        # With the pair of C assumed the short way is there at once.
        self.assertEqual(ask_last(load(LATE), assume("C", "d", "v"), why("S", "d", "v")), [0, 1, 2, 4, 0, 0, 3, 0, 3, 1, 0, 1])

    def test_pairs_of_the_same_round_do_not_count(self):
        # Both pairs of E come in round 2; that from a to w has a shorter way by the other one at the child, but only later.
        text = """
            A d > v; E a > v w;
            lit A: { v = d; } e E: { v = 0; w = 0; }
            f E: A A E { 1.d = a; v = 1.v; 2.d = 1.v; w = 2.v + 3.v; 3.a = a; }
        """
        told = ask(load(text), why("E", "a", "v"), why("E", "a", "w"))
        self.assertEqual(told[1:], [[0, 2, 2, 4] + THROUGH, [0, 2, 2, 6, 0, 0, 1, 0, 1, 1, 2, 0, 2, 1, 0, 2]])

    def test_the_first_of_the_shortest_ways(self):
        text = "A d > v; S d > v; lit A: { v = d; } s S: A A { 2.d = d; 1.d = d; v = 2.v + 1.v; }"
        self.assertEqual(ask_last(load(text), why("S", "d", "v")), [0, 2, 1, 4] + THROUGH)
        text = "S d > a b c; s S: { a = d; b = d; c = b + a; }"
        self.assertEqual(ask_last(load(text), why("S", "d", "c")), [0, 1, 0, 3, 0, 0, 0, 1, 0, 3])
        self.assertEqual(ask_last(load(text.replace("b + a", "b + a + d")), why("S", "d", "c")), [0, 1, 0, 2, 0, 0, 0, 3])

    def test_productions_of_other_symbols(self):
        text = "A d > v; S d > v; p A: { v = d; } q S: { v = 0; } r S: { v = d; }"
        self.assertEqual(ask(load(text), why("A", "d", "v"), why("S", "d", "v"))[1:], [
            [0, 1, 0, 2, 0, 0, 0, 1], [0, 1, 2, 2, 0, 0, 0, 1]])


class Assumed(unittest.TestCase):
    def test_round_0_and_nothing_else(self):
        told = ask(load(EXAMPLE), assume("E", "d", "v"), why("E", "d", "v"), release("E", "d", "v"), why("E", "d", "v"))
        self.assertEqual(told[2::2], [[0, 0], [0, 1, 1, 2, 0, 0, 0, 1]])

    def test_a_pair_that_no_production_gives(self):
        told = ask(load(OPEN_CHAIN), why("D", "d", "v"), assume("D", "d", "v"), why("D", "d", "v"), why("C", "d", "v"),
                   why("A", "d", "v"), release("D", "d", "v"), why("D", "d", "v"), why("C", "d", "v"))
        self.assertEqual(told[1:], [[-13], [0], [0, 0], [0, 1, 2, 4] + THROUGH, [0, 3, 0, 4] + THROUGH, [1], [-13], [-13]])

    def test_rounds_are_counted_from_the_assumed_pairs_on(self):
        told = ask(load(CHAIN), assume("B", "d", "v"), *[why(symbol, "d", "v") for symbol in "ABCD"])
        self.assertEqual(told[2:], [[0, 1, 0, 4] + THROUGH, [0, 0], [0, 2, 2, 4] + THROUGH, [0, 1, 3, 2, 0, 0, 0, 1]])

    def test_pairs_from_above_do_not_count(self):
        told = ask(load(EXAMPLE), assume("E", "v", "d"), why("E", "d", "v"), why("E", "v", "d"))
        self.assertEqual(told[2:], [[0, 1, 1, 2, 0, 0, 0, 1], [-13]])
        # In the joined family the pair of S is there, by the assumed pair at the child; from below it isn't.
        text = "T x a > w; t T: { w = x; } S d > u; p S: T { 1.x = d; 1.a = 0; u = 1.a; }"
        told = ask(load(text), assume("T", "w", "a"), graph(3, "S"), why("S", "d", "u"))
        self.assertEqual(told[2:], [[0, 0, 1], [-13]])


class Refusals(unittest.TestCase):
    def test_no_grammar_comes_first(self):
        self.assertEqual(ask(why("E", "d", "v"), why("", "", "")), [[-4], [-4]])

    def test_no_symbol(self):
        for name in ("", "X", "e", "EE", "top", [69, 0], "E" * 100, [200]):
            self.assertEqual(ask_last(load(EXAMPLE), why(name, "d", "v")), [-5], name)

    def test_no_symbol_ahead_of_no_attribute(self):
        self.assertEqual(ask_last(load(EXAMPLE), why("X", "x", "x")), [-5])

    def test_no_attribute(self):
        for one, other in (("x", "v"), ("d", "x"), ("x", "x"), ("", "v"), ("d", ""), ("D", "v"), ("d", "vv"), ([0], "v"),
                           ("d", "v" * 100), ("v", "x"), ("x", "d")):
            self.assertEqual(ask_last(load(EXAMPLE), why("E", one, other)), [-6], (one, other))
        self.assertEqual(ask_last(load(EXAMPLE), why("S", "d", "v")), [-6])

    def test_not_in_the_family(self):
        told = ask(load(EXAMPLE), why("E", "v", "d"), why("E", "d", "d"), why("E", "v", "v"), why("S", "v", "v"))
        self.assertEqual(told[1:], [[-13]] * 4)
        text = "S a b > c e; s S: { c = a; e = c; }"
        told = ask(load(text), why("S", "b", "c"), why("S", "a", "b"), why("S", "c", "e"), why("S", "a", "e"))
        self.assertEqual(told[1:], [[-13], [-13], [-13], [0, 1, 0, 3, 0, 0, 0, 2, 0, 3]])

    def test_refused_calls_change_nothing(self):
        told = ask(load(EXAMPLE), assume("E", "d", "v"), why("E", "v", "d"), why("X", "d", "v"), why("E", "d", "x"),
                   why("E", "d", "v"), release("E", "d", "v"))
        self.assertEqual(told[2:], [[-13], [-5], [-6], [0, 0], [1]])


if __name__ == "__main__":
    unittest.main()
