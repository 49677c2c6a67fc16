"""Promise 5, graph: the three families."""

import unittest

from tests.helper import EXAMPLE, ask, ask_last, assume, graph, load, release, twos

# Each symbol hands its value on from the one below it, so that a round reaches one symbol more.
CHAIN = """
    A d > v; B d > v; C d > v; D d > v;
    a A: B { v = 1.v; 1.d = d; }
    b B: C { v = 1.v; 1.d = d; }
    c C: D { v = 1.v; 1.d = d; }
    e D: { v = d; }
"""

# The same with the last step left out: nothing leads from d to v.
OPEN_CHAIN = CHAIN.replace("{ v = d; }", "{ v = 0; }")

# What comes up at the top is handed down again.
TURNED = OPEN_CHAIN + "T > v; t T: A { v = 1.v; 1.d = 1.v; }"

BIG = 10 ** 18


def families(text, symbol, *calls):
    """The pairs of a symbol in the three families, after these calls."""
    told = ask(load(text), *calls, graph(1, symbol), graph(2, symbol), graph(3, symbol))
    return [twos(answer) for answer in told[-3:]]


class Below(unittest.TestCase):
    def test_the_example(self):
        self.assertEqual(ask_last(load(EXAMPLE), graph(1, "E")), [0, 0, 1])
        self.assertEqual(ask_last(load(EXAMPLE), graph(1, "S")), [0])

    def test_more_than_one_round(self):
        for symbol in "ABCD":
            self.assertEqual(families(CHAIN, symbol)[0], [(0, 1)])
            self.assertEqual(families(OPEN_CHAIN, symbol)[0], [])

    def test_productions_in_another_order(self):
        text = "e D: { v = d; } " + CHAIN.replace("e D: { v = d; }", "")
        for symbol in "ABCD":
            self.assertEqual(families(text, symbol)[0], [(0, 1)])

    def test_a_pair_by_the_pairs_of_several_children(self):
        text = """
            E d > v; S d > v;
            lit E: { v = d; } none E: { v = 0; }
            s S: E E E { 1.d = d; 2.d = 1.v; 3.d = 2.v; v = 3.v; }
        """
        self.assertEqual(families(text, "S")[0], [(0, 1)])
        self.assertEqual(families(text.replace("3.d = 2.v", "3.d = 0"), "S")[0], [])

    def test_pairs_that_take_turns(self):
        # Each level swaps the attributes handed up, so that the second pair comes a round later.
        text = "E d > v w; e E: { v = d; w = 0; } f E: E { 1.d = d; v = 1.w; w = 1.v; }"
        self.assertEqual(families(text, "E")[0], [(0, 1), (0, 2)])

    def test_only_from_handed_down_to_handed_up(self):
        # The left side's attributes hang on one another otherwise, but these are no pairs from below.
        text = "S a b > c e; s S: { c = e + a; e = 0; }"
        self.assertEqual(families(text, "S")[0], [(0, 2)])
        self.assertEqual(families(text, "S")[2], [(0, 2), (3, 2)])

    def test_the_left_sides_own_pairs_do_not_count_at_place_0(self):
        # In s e hangs on c alone; that c may hang on a, by t, is another node's matter.
        text = "S a > c e; s S: { c = 0; e = c; } t S: { c = a; e = 0; }"
        self.assertEqual(families(text, "S"), [[(0, 1)], [], [(0, 1), (0, 2), (1, 2)]])

    def test_pairs_from_above_do_not_count_at_children(self):
        text = "T x a > w; t T: { w = x; } U d > u; p U: T { 1.x = d; 1.a = 0; u = 1.a; }"
        self.assertEqual(families(text, "U", assume("T", "w", "a")), [[], [], [(0, 1)]])

    def test_assumed_pairs_from_below(self):
        self.assertEqual(families(OPEN_CHAIN, "A", assume("D", "d", "v"))[0], [(0, 1)])
        self.assertEqual(families(OPEN_CHAIN, "B", assume("C", "d", "v"))[0], [(0, 1)])
        self.assertEqual(families(OPEN_CHAIN, "D", assume("C", "d", "v"))[0], [])
        self.assertEqual(families(OPEN_CHAIN, "A", assume("A", "d", "v"))[0], [(0, 1)])
        self.assertEqual(families(OPEN_CHAIN, "A", assume("D", "v", "d"))[0], [])


class Above(unittest.TestCase):
    def test_the_example(self):
        self.assertEqual(families(EXAMPLE, "E")[1], [])

    def test_more_than_one_round(self):
        for symbol in "ABCD":
            self.assertEqual(families(TURNED, symbol)[1], [(1, 0)])
            self.assertEqual(families(OPEN_CHAIN, symbol)[1], [])
        self.assertEqual(families(TURNED, "T")[1], [])

    def test_assumed_pairs_from_above(self):
        for symbol, pairs in (("A", []), ("B", [(1, 0)]), ("C", [(1, 0)]), ("D", [(1, 0)])):
            self.assertEqual(families(OPEN_CHAIN, symbol, assume("B", "v", "d"))[1], pairs)
        self.assertEqual(families(OPEN_CHAIN, "D", assume("A", "d", "v"))[1], [])

    def test_by_the_other_children(self):
        text = "S > v; E d > v; lit E: { v = d; } top S: E E { 1.d = 2.v; 2.d = 1.v; v = 0; }"
        self.assertEqual(families(text, "E")[1], [(1, 0)])
        text = text.replace("{ v = d; }", "{ v = 0; }")
        self.assertEqual(families(text, "E")[1], [])
        self.assertEqual(families(text, "E", assume("E", "d", "v"))[1], [(1, 0)])

    def test_not_by_the_child_itself(self):
        text = "S > v; E a b > c e; lit E: { c = 0; e = b; } top S: E { 1.a = 1.e; 1.b = 1.c; v = 0; }"
        self.assertEqual(families(text, "E"), [[(1, 3)], [(2, 1), (3, 0)], [
            (1, 0), (1, 3), (2, 0), (2, 1), (2, 3), (3, 0)]])

    def test_not_by_the_pairs_from_below_of_the_left_side(self):
        # 1.v leads to w and by the assumed pair to a; from there to v only by a pair from below at place 0.
        text = "S a > v w; E d > v; e E: { v = 0; } s S: E { w = 1.v; v = 0; 1.d = v; } t S: { v = a; w = 0; }"
        self.assertEqual(families(text, "E", assume("S", "w", "a")), [[], [], [(1, 0)]])
        self.assertEqual(families(text.replace("1.d = v", "1.d = a"), "E", assume("S", "w", "a"))[1], [(1, 0)])

    def test_not_by_the_pairs_from_above_of_other_children(self):
        text = "F a b > c; E d > v; f F: { c = a; } e E: { v = 0; } U > ; u U: F E { 1.a = 2.v; 1.b = 0; 2.d = 1.b; }"
        self.assertEqual(families(text, "E", assume("F", "c", "b")), [[], [], [(1, 0)]])
        self.assertEqual(families(text.replace("2.d = 1.b", "2.d = 1.c"), "E", assume("F", "c", "b"))[1], [(1, 0)])

    def test_only_from_handed_up_to_handed_down(self):
        text = "S > v; E a b > c e; lit E: { c = 0; e = 0; } top S: E { 1.a = 1.b; 1.b = 1.c; v = 0; }"
        self.assertEqual(families(text, "E")[1], [(2, 0), (2, 1)])
        self.assertEqual(families(text, "E")[2], [(1, 0), (2, 0), (2, 1)])

    def test_the_family_from_below_is_done_before(self):
        # The pair from below of E takes three rounds; only then the sibling leads back.
        text = CHAIN + "T > v; t T: A A { v = 0; 1.d = 2.v; 2.d = 1.v; }"
        for symbol in "ABCD":
            self.assertEqual(families(text, symbol)[1], [(1, 0)])


class Joined(unittest.TestCase):
    def test_the_example(self):
        self.assertEqual(families(EXAMPLE, "E")[2], [(0, 1)])
        self.assertEqual(families(EXAMPLE, "S")[2], [])

    def test_the_example_with_a_pair_assumed(self):
        self.assertEqual(families(EXAMPLE, "E", assume("E", "v", "d")), [
            [(0, 1)], [(1, 0)], [(0, 0), (0, 1), (1, 0), (1, 1)]])

    def test_more_than_one_round(self):
        for symbol in "ABCD":
            self.assertEqual(families(CHAIN, symbol)[2], [(0, 1)])
            self.assertEqual(families(TURNED, symbol)[2], [(1, 0)])
        turned = CHAIN + "T > v; t T: A { v = 1.v; 1.d = 1.v; }"
        for symbol in "ABCD":
            self.assertEqual(families(turned, symbol), [[(0, 1)], [(1, 0)], [(0, 0), (0, 1), (1, 0), (1, 1)]])
        self.assertEqual(families(turned, "T"), [[], [], []])

    def test_pairs_of_one_direction(self):
        text = "S a b > c e; s S: S { 1.a = b; 1.b = 1.a; c = 1.e; e = c; } t S: { c = 0; e = 0; }"
        self.assertEqual(families(text, "S"), [[], [], [(0, 1), (2, 3)]])

    def test_an_attribute_on_itself(self):
        self.assertEqual(families("S > v; s S: { v = v; }", "S"), [[], [], [(0, 0)]])


class Assumed(unittest.TestCase):
    def test_assumed_and_released(self):
        told = ask(load(OPEN_CHAIN), graph(1, "A"), assume("C", "d", "v"), graph(1, "A"), graph(3, "B"), graph(2, "B"),
                   assume("A", "v", "d"), graph(2, "D"), graph(3, "D"), graph(3, "B"), release("C", "d", "v"), graph(1, "A"),
                   graph(3, "B"), release("A", "v", "d"), graph(2, "D"), graph(3, "A"))
        self.assertEqual(told[1:], [
            [0], [0], [0, 0, 1], [0, 0, 1], [0], [0], [0, 1, 0], [0, 1, 0], [0, 0, 0, 0, 1, 1, 0, 1, 1], [1], [0],
            [0, 1, 0], [1], [0], [0]])

    def test_all_four_pairs_in_order(self):
        text = "S a b > c e; s S: { c = a + b; e = a + b; }"
        self.assertEqual(ask_last(load(text), graph(1, "S")), [0, 0, 2, 0, 3, 1, 2, 1, 3])
        told = ask(load("S a b > c e; s S: { c = 0; e = 0; }"), assume("S", "e", "b"), assume("S", "c", "b"),
                   assume("S", "e", "a"), assume("S", "b", "e"), assume("S", "a", "c"), graph(1, "S"), graph(2, "S"))
        self.assertEqual(told[-2:], [[0, 0, 2, 1, 3], [0, 2, 1, 3, 0, 3, 1]])

    def test_the_whole_family(self):
        told = ask_last(load("S a b > c e; s S: { c = a + b; e = a + b; }"), assume("S", "c", "a"), assume("S", "e", "b"),
                        graph(3, "S"))
        self.assertEqual(twos(told), [(one, other) for one in range(4) for other in range(4)])


class Refusals(unittest.TestCase):
    def test_no_grammar_comes_first(self):
        self.assertEqual(ask(graph(1, "S"), graph(0, "S"), graph(BIG, "")), [[-4], [-4], [-4]])

    def test_no_kind(self):
        for kind in (0, 4, 5, -1, -2, -3, 100, 2 ** 32 + 1, 2 ** 59, BIG, -BIG):
            self.assertEqual(ask_last(load(EXAMPLE), graph(kind, "E")), [-10], kind)

    def test_no_kind_ahead_of_no_symbol(self):
        self.assertEqual(ask_last(load(EXAMPLE), graph(0, "X")), [-10])
        self.assertEqual(ask_last(load(EXAMPLE), graph(-BIG, "")), [-10])

    def test_no_symbol(self):
        for name in ("", "X", "e", "top", "v", "SE", "S" * 100, [0]):
            for kind in (1, 2, 3):
                self.assertEqual(ask_last(load(EXAMPLE), graph(kind, name)), [-5], name)


if __name__ == "__main__":
    unittest.main()
