"""Promise 7, verdict: of which kinds a grammar is free."""

import unittest

from tests.helper import EXAMPLE, ask, ask_last, assume, load, release, verdict

# In s b hangs on c, in t c on b: only the joined family brings both to one node.
JOINED_ALONE = "S > b c; s S: { b = 0; c = b; } t S: { b = c; c = 0; }"

# Each of the two contexts closes one half of a circle round p; no tree has both.
TWO_CONTEXTS = """
    S a b > c e; T > ;
    p S: { c = b; e = a; }
    q T: S { 1.a = 1.c; 1.b = 0; }
    r T: S { 1.a = 0; 1.b = 1.e; }
"""

TURNED = "S > v; E d > v; lit E: { v = d; } top S: E { v = 0; 1.d = 1.v; }"


class Verdict(unittest.TestCase):
    def test_free_of_all(self):
        self.assertEqual(ask_last(load(EXAMPLE), verdict()), [0, 1, 1, 1, 1])
        self.assertEqual(ask_last(load("S > ; s S: {}"), verdict()), [0, 1, 1, 1, 1])

    def test_not_free_of_kind_0(self):
        for text in ("S > v; s S: { v = v; }", "S > a b; s S: { a = b; b = a; }",
                     "E d > v; S > v; e E: { v = 0; } s S: E { v = 1.d; 1.d = v; }"):
            self.assertEqual(ask_last(load(text), verdict()), [0, 0, 0, 0, 0], text)

    def test_a_circle_in_the_last_production_alone(self):
        text = "S > v; s S: { v = 0; } t S: { v = 1; } u S: { v = v; }"
        self.assertEqual(ask_last(load(text), verdict()), [0, 0, 0, 0, 0])

    def test_not_free_from_kind_1_on(self):
        self.assertEqual(ask_last(load(TURNED), verdict()), [0, 1, 0, 0, 0])

    def test_not_free_from_kind_2_on(self):
        self.assertEqual(ask_last(load(TWO_CONTEXTS), verdict()), [0, 1, 1, 0, 0])

    def test_not_free_of_kind_3_alone(self):
        self.assertEqual(ask_last(load(JOINED_ALONE), verdict()), [0, 1, 1, 1, 0])

    def test_conditions_have_no_arrows(self):
        self.assertEqual(ask_last(load("S a > v; s S: { v = a; ? v < a; }"), verdict()), [0, 1, 1, 1, 1])

    def test_a_way_that_does_not_come_back_is_no_circle(self):
        text = "S a > b c e; s S: { b = a; c = a + b; e = a + b + c; }"
        self.assertEqual(ask_last(load(text), verdict()), [0, 1, 1, 1, 1])


class Assumed(unittest.TestCase):
    def test_the_example(self):
        told = ask(load(EXAMPLE), verdict(), assume("E", "v", "d"), verdict(), assume("E", "d", "v"), verdict(),
                   release("E", "v", "d"), verdict(), release("E", "d", "v"), verdict())
        free = [0, 1, 1, 1, 1]
        self.assertEqual(told[1::2], [free, [0, 1, 1, 0, 0], [0, 1, 1, 0, 0], free, free])

    def test_a_pair_from_below(self):
        text = TURNED.replace("{ v = d; }", "{ v = 0; }")
        told = ask(load(text), verdict(), assume("E", "d", "v"), verdict(), release("E", "d", "v"), verdict())
        self.assertEqual(told[1::2], [[0, 1, 1, 1, 1], [0, 1, 0, 0, 0], [0, 1, 1, 1, 1]])

    def test_a_pair_from_above(self):
        text = "S a > v; E d > v; lit E: { v = 0; } top S: E { v = 1.d; 1.d = a; }"
        told = ask(load(text), assume("S", "v", "a"), verdict(), release("S", "v", "a"), verdict())
        self.assertEqual(told[2::2], [[0, 1, 1, 0, 0], [0, 1, 1, 1, 1]])

    def test_a_pair_from_above_at_a_child(self):
        # In top d leads to w, and at its child the assumed pair back to d; kind 2 has pairs from above at place 0 alone.
        text = "S > w; E d x > v; lit E: { v = x; } top S: E { w = 1.d; 1.x = w; 1.d = 0; }"
        told = ask(load(text), verdict(), assume("E", "v", "d"), verdict())
        self.assertEqual(told[1::2], [[0, 1, 1, 1, 1], [0, 1, 1, 1, 0]])

    def test_both_halves_assumed(self):
        told = ask(load("S a > v; s S: { v = 0; }"), assume("S", "a", "v"), assume("S", "v", "a"), verdict())
        # Where nothing has S as a child, pairs from below count nowhere, but in the joined family at place 0.
        self.assertEqual(told[-1], [0, 1, 1, 1, 0])

    def test_a_new_grammar_has_nothing_assumed(self):
        told = ask(load(EXAMPLE), assume("E", "v", "d"), verdict(), load(EXAMPLE), verdict())
        self.assertEqual(told[2::2], [[0, 1, 1, 0, 0], [0, 1, 1, 1, 1]])

    def test_a_refused_grammar_leaves_the_one_held(self):
        told = ask(load(TURNED), load("$"), verdict(), load("S > v;"), verdict(), load(" " * 3001), verdict())
        self.assertEqual(told[1:], [[-2], [0, 1, 0, 0, 0], [-3], [0, 1, 0, 0, 0], [-1], [0, 1, 0, 0, 0]])


class Refusals(unittest.TestCase):
    def test_no_grammar(self):
        self.assertEqual(ask(verdict(), load("x"), verdict()), [[-4], [-2], [-4]])


if __name__ == "__main__":
    unittest.main()
