"""Promise 2, arrows."""

import unittest

from tests.helper import EXAMPLE, arrows, ask, ask_last, assume, fours, load


def drawn(text, production):
    return fours(ask_last(load(text), arrows(production)))


class Arrows(unittest.TestCase):
    def test_the_example(self):
        self.assertEqual(drawn(EXAMPLE, "top"), [((1, 1), (0, 0))])
        self.assertEqual(drawn(EXAMPLE, "lit"), [((0, 0), (0, 1))])
        self.assertEqual(drawn(EXAMPLE, "add"), [((0, 0), (1, 0)), ((0, 0), (2, 0)), ((1, 1), (0, 1)), ((2, 1), (0, 1))])

    def test_as_numbers(self):
        self.assertEqual(ask_last(load(EXAMPLE), arrows("top")), [0, 1, 1, 0, 0])

    def test_order_by_source_then_target(self):
        text = "S a b > c d; p S: { c = 0; d = 0; } q S: S S { 2.b = d; d = 2.d + b + a; 1.a = b; c = a; 1.b = d; 2.a = 1.c; }"
        self.assertEqual(drawn(text, "q"), [
            ((0, 0), (0, 2)), ((0, 0), (0, 3)), ((0, 1), (0, 3)), ((0, 1), (1, 0)), ((0, 3), (1, 1)), ((0, 3), (2, 1)),
            ((1, 2), (2, 0)), ((2, 3), (0, 3))])

    def test_none_twice(self):
        text = "S a > v; p S: { v = a + a * (0.a - len([a, a])) + (if a then 00.a else a); }"
        self.assertEqual(drawn(text, "p"), [((0, 0), (0, 1))])

    def test_anywhere_in_the_expression(self):
        for expression in ("a", "-a", "!a", "(a)", "[a]", "[1, [2, a]]", "1 + a", "a + 1", "1 - 2 * a", "a / 2", "3 % a",
                           "1 = a", "a < 1", "1 & a", "1 | a", "if a then 1 else 2", "if 1 then a else 2",
                           "if 1 then 2 else a", "len(a)", "at(a, 1)", "at(1, a)", "cat(1, a)", "look(1, 2, a)",
                           "look(1, a, 2)", "drop(a, 1)", "has(1, a)", "max(1, a)", "min(a, 1)", "-!-(([a]))", "0.a"):
            self.assertEqual(drawn(f"S a > v; p S: {{ v = {expression}; }}", "p"), [((0, 0), (0, 1))], expression)

    def test_conditions_have_no_arrows(self):
        self.assertEqual(drawn("S a > v; p S: { v = 0; ? a; ? v = a; }", "p"), [])
        self.assertEqual(drawn("S a > v; p S: { ? a < v; v = v; }", "p"), [((0, 1), (0, 1))])

    def test_numbers_have_no_arrows(self):
        self.assertEqual(drawn("S a > v; p S #: { v = # + 7 - [#]; }", "p"), [])

    def test_no_occurrence_at_all(self):
        self.assertEqual(ask_last(load("S > ; p S: S {} q S: {}"), arrows("p")), [0])

    def test_an_occurrence_on_itself(self):
        self.assertEqual(drawn("S > v; p S: { v = v + 1; }", "p"), [((0, 0), (0, 0))])
        text = "S a > ; p S: {} q S: S { 1.a = 1.a + a; }"
        self.assertEqual(drawn(text, "q"), [((0, 0), (1, 0)), ((1, 0), (1, 0))])

    def test_an_attribute_called_len(self):
        self.assertEqual(drawn("S len > v; p S: { v = len(len); }", "p"), [((0, 0), (0, 1))])

    def test_attributes_handed_down_are_numbered_first(self):
        self.assertEqual(drawn("S z a > y b; p S: { b = z; y = a; }", "p"), [((0, 0), (0, 3)), ((0, 1), (0, 2))])

    def test_the_most_arrows(self):
        names = [f"{place}.{name}" for place in range(4) for name in "abcd"]
        everything = "[" + ",".join(names) + "]"
        text = "S > a b c d; T a b c d > ; q T: {} p S: T T T {" + "".join(f"{name}={everything};" for name in names) + "}"
        told = drawn(text, "p")
        occurrences = [(place, k) for place in range(4) for k in range(4)]
        self.assertEqual(told, [(one, other) for one in occurrences for other in occurrences])

    def test_assumed_pairs_are_no_arrows_of_a_production(self):
        told = ask(load(EXAMPLE), arrows("lit"), assume("E", "v", "d"), arrows("lit"))
        self.assertEqual(told[1], told[3])


class Refusals(unittest.TestCase):
    def test_no_grammar(self):
        self.assertEqual(ask(arrows("p"), arrows("")), [[-4], [-4]])

    def test_no_production_of_that_name(self):
        for name in ("", "to", "topp", "Top", "S", "E", "v", "if", "x" * 100, [0], [255] * 100, "top "):
            self.assertEqual(ask(load(EXAMPLE), arrows(name))[1], [-11], name)


if __name__ == "__main__":
    unittest.main()
