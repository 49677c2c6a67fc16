"""Promise 11, spread: the attributes to which one spreads."""

import unittest

from tests.helper import EXAMPLE, ask, ask_last, assume, load, spread, twos


def spreads(text, symbol, attribute):
    return twos(ask_last(load(text), spread(symbol, attribute)))


class Spread(unittest.TestCase):
    def test_the_example(self):
        told = ask(load(EXAMPLE), spread("S", "v"), spread("E", "d"), spread("E", "v"))
        self.assertEqual(told[1:], [[0], [0, 0, 0, 1, 0, 1, 1], [0, 0, 0, 1, 1]])

    def test_at_once(self):
        text = "S a > b c e; s S: { b = a; c = 0; e = a; }"
        self.assertEqual(spreads(text, "S", "a"), [(0, 1), (0, 3)])
        for name in "bce":
            self.assertEqual(spreads(text, "S", name), [])

    def test_over_several_steps(self):
        text = "S a > b c e; s S: { b = a; c = b; e = c; }"
        self.assertEqual(spreads(text, "S", "a"), [(0, 1), (0, 2), (0, 3)])
        self.assertEqual(spreads(text, "S", "b"), [(0, 2), (0, 3)])
        self.assertEqual(spreads(text, "S", "c"), [(0, 3)])

    def test_over_several_productions(self):
        # No graph of a production has a way from a to e; each step is another's.
        text = "S a > b c e; s S: { b = a; c = 0; e = 0; } t S: { b = 0; c = b; e = 0; } u S: { b = 0; c = 0; e = c; }"
        self.assertEqual(spreads(text, "S", "a"), [(0, 1), (0, 2), (0, 3)])

    def test_over_several_symbols(self):
        text = "C d > v; B d > v; A d > v; a A: B { 1.d = d; v = 1.v; } b B: C { 1.d = d; v = 1.v; } c C: { v = d; }"
        self.assertEqual(spreads(text, "A", "d"), [(0, 0), (0, 1), (1, 0), (1, 1), (2, 1)])
        self.assertEqual(spreads(text, "B", "d"), [(0, 0), (0, 1), (1, 1), (2, 1)])
        self.assertEqual(spreads(text, "C", "d"), [(0, 1), (1, 1), (2, 1)])
        self.assertEqual(spreads(text, "C", "v"), [(1, 1), (2, 1)])
        self.assertEqual(spreads(text, "A", "v"), [])

    def test_in_order_of_the_numbers(self):
        text = "Z x > y; A b a > ; p Z: A A { 2.a = x; 1.b = 0; 2.b = x; 1.a = 0; y = x; } q A: {}"
        self.assertEqual(spreads(text, "Z", "x"), [(0, 1), (1, 0), (1, 1)])

    def test_from_one_child_to_another(self):
        text = "S > ; E d > ; F > v; s S: E F { 1.d = 2.v; } e E: {} f F: { v = 0; }"
        self.assertEqual(spreads(text, "F", "v"), [(1, 0)])
        self.assertEqual(spreads(text, "E", "d"), [])

    def test_to_itself(self):
        self.assertEqual(spreads("S > v; s S: { v = v; }", "S", "v"), [(0, 0)])
        self.assertEqual(spreads("S > a b; s S: { a = b; b = a; }", "S", "a"), [(0, 0), (0, 1)])
        # At another place of the same symbol it's the same attribute.
        text = "S d > ; s S: S { 1.d = d; } t S: {}"
        self.assertEqual(spreads(text, "S", "d"), [(0, 0)])
        # And by way of another symbol.
        text = "S d > ; E d > ; s S: E { 1.d = d; } e E: S { 1.d = d; } t S: {} u E: {}"
        self.assertEqual(spreads(text, "S", "d"), [(0, 0), (1, 0)])
        self.assertEqual(spreads(text, "E", "d"), [(0, 0), (1, 0)])

    def test_into_a_circle_but_not_to_itself(self):
        text = "S a > b c e; s S: { b = a + c; c = b; e = c; }"
        self.assertEqual(spreads(text, "S", "a"), [(0, 1), (0, 2), (0, 3)])
        self.assertEqual(spreads(text, "S", "b"), [(0, 1), (0, 2), (0, 3)])
        self.assertEqual(spreads(text, "S", "e"), [])

    def test_same_names_of_different_symbols(self):
        text = "S v > w; E v > w; s S: { w = v; } e E: { w = 0; }"
        self.assertEqual(spreads(text, "S", "v"), [(0, 1)])
        self.assertEqual(spreads(text, "E", "v"), [])

    def test_conditions_have_no_arrows(self):
        self.assertEqual(spreads("S a > v; s S: { v = 0; ? a < v; }", "S", "a"), [])

    def test_assumed_pairs_do_not_count(self):
        told = ask(load(EXAMPLE), assume("E", "v", "d"), spread("E", "v"), spread("E", "d"))
        self.assertEqual(told[2:], [[0, 0, 0, 1, 1], [0, 0, 0, 1, 0, 1, 1]])
        self.assertEqual(ask_last(load("S a > v; s S: { v = 0; }"), assume("S", "a", "v"), spread("S", "a")), [0])

    def test_pairs_of_families_do_not_count(self):
        # E's pair from below leads from d to v in its own production alone, and so d spreads to v and no farther.
        text = "S > v; E d > v; e E: { v = d; } s S: E { 1.d = 0; v = 0; }"
        self.assertEqual(spreads(text, "E", "d"), [(1, 1)])

    def test_to_all_48_attributes(self):
        names = "ABCDEFGHIJKL"
        text = "".join(f"{name} a b > c e;" for name in names)
        for k, name in enumerate(names):
            low = names[(k + 1) % 12]
            text += f"p{k} {name}: {low} {{ c = a + b; e = c; 1.a = e; 1.b = a; }} q{k} {name}: {{ c = 0; e = a; }}"
        everything = [(symbol, attribute) for symbol in range(12) for attribute in range(4)]
        for symbol in "AFL":
            for attribute in "abce":
                self.assertEqual(spreads(text, symbol, attribute), everything)


class Refusals(unittest.TestCase):
    def test_no_grammar_comes_first(self):
        self.assertEqual(ask(spread("E", "d"), spread("", "")), [[-4], [-4]])

    def test_no_symbol(self):
        for name in ("", "X", "e", "EE", "top", [69, 0], "E" * 100, [200]):
            self.assertEqual(ask_last(load(EXAMPLE), spread(name, "d")), [-5], name)
        self.assertEqual(ask_last(load(EXAMPLE), spread("X", "x")), [-5])

    def test_no_attribute(self):
        for name in ("", "x", "D", "E", "dd", "d" * 100, [0], [255], "if"):
            self.assertEqual(ask_last(load(EXAMPLE), spread("E", name)), [-6], name)
        self.assertEqual(ask_last(load(EXAMPLE), spread("S", "d")), [-6])

    def test_refused_calls_change_nothing(self):
        told = ask(load(EXAMPLE), spread("X", "d"), spread("E", "x"), spread("E", "v"))
        self.assertEqual(told[1:], [[-5], [-6], [0, 0, 0, 1, 1]])


if __name__ == "__main__":
    unittest.main()
