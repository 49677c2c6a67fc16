"""Promise 6, closure: the four kinds of graphs of a production."""

import unittest

from tests.helper import EXAMPLE, arrows, ask, ask_last, assume, closure, fours, load, release

BIG = 10 ** 18

# In top each kind has its own arrows: one of its own, E's pair from below at its children, S's pair from above at place 0,
# and, joined, pairs from above at the children and of E from v to v besides.
KINDS = """
    S a > v; E d > v;
    lit E: { v = d; }
    top S: E { v = 1.v; 1.d = a; }
    turn S: E { v = 0; 1.d = 1.v; }
"""


def closed(text, kind, production, *calls):
    return fours(ask_last(load(text), *calls, closure(kind, production)))


class Kinds(unittest.TestCase):
    def test_own_arrows(self):
        self.assertEqual(closed(KINDS, 0, "top"), [((0, 0), (1, 0)), ((1, 1), (0, 1))])
        text = "S a > b c e; s S: { b = a; c = b; e = c; }"
        self.assertEqual(closed(text, 0, "s"), [
            ((0, 0), (0, 1)), ((0, 0), (0, 2)), ((0, 0), (0, 3)), ((0, 1), (0, 2)), ((0, 1), (0, 3)), ((0, 2), (0, 3))])
        self.assertEqual(len(fours(ask_last(load(text), arrows("s")))), 3)

    def test_from_below(self):
        self.assertEqual(closed(KINDS, 1, "top"), [
            ((0, 0), (0, 1)), ((0, 0), (1, 0)), ((0, 0), (1, 1)), ((1, 0), (0, 1)), ((1, 0), (1, 1)), ((1, 1), (0, 1))])

    def test_the_family_from_below_does_not_count_at_place_0(self):
        text = "S a > b c; s S: { b = 0; c = b; } t S: { b = a; c = 0; }"
        self.assertEqual(closed(text, 1, "s"), [((0, 1), (0, 2))])
        self.assertEqual(closed(text, 2, "s"), [((0, 1), (0, 2))])
        self.assertEqual(closed(text, 3, "s"), [((0, 0), (0, 1)), ((0, 0), (0, 2)), ((0, 1), (0, 2))])

    def test_from_above(self):
        # The pair from above of E, by turn, counts where E is the left side.
        self.assertEqual(closed(KINDS, 1, "lit"), [((0, 0), (0, 1))])
        everything = [((0, one), (0, other)) for one in (0, 1) for other in (0, 1)]
        self.assertEqual(closed(KINDS, 2, "lit"), everything)
        self.assertEqual(closed(KINDS, 2, "top"), closed(KINDS, 1, "top"))

    def test_from_above_has_the_pairs_from_below_at_all_children(self):
        self.assertEqual(closed(KINDS, 0, "turn"), [((1, 1), (1, 0))])
        everything = [((1, one), (1, other)) for one in (0, 1) for other in (0, 1)]
        self.assertEqual(closed(KINDS, 1, "turn"), everything)
        self.assertEqual(closed(KINDS, 2, "turn"), everything)

    def test_joined(self):
        self.assertEqual(closed(KINDS, 3, "top"), [
            ((0, 0), (0, 1)), ((0, 0), (1, 0)), ((0, 0), (1, 1)), ((1, 0), (0, 1)), ((1, 0), (1, 0)), ((1, 0), (1, 1)),
            ((1, 1), (0, 1)), ((1, 1), (1, 0)), ((1, 1), (1, 1))])

    def test_no_occurrence(self):
        for kind in range(4):
            self.assertEqual(ask_last(load("S > ; s S: {}"), closure(kind, "s")), [0])

    def test_circles_lead_to_themselves(self):
        text = "S > a b c; s S: { a = b; b = a; c = b; }"
        both = [((0, one), (0, other)) for one in (0, 1) for other in (0, 1, 2)]
        for kind in range(4):
            self.assertEqual(closed(text, kind, "s"), both)

    def test_the_most_arrows(self):
        names = [f"{place}.{name}" for place in range(4) for name in "abcd"]
        rules = "".join(f"{names[k]} = {names[k - 1]};" for k in range(16))
        text = "S > a b c d; T a b c d > ; q T: {} p S: T T T {" + rules + "}"
        occurrences = [(place, k) for place in range(4) for k in range(4)]
        for kind in range(4):
            self.assertEqual(closed(text, kind, "p"), [(one, other) for one in occurrences for other in occurrences])


class Assumed(unittest.TestCase):
    def test_the_example(self):
        told = ask(load(EXAMPLE), closure(2, "lit"), closure(3, "top"), assume("E", "v", "d"), closure(1, "lit"),
                   closure(2, "lit"), closure(3, "top"), release("E", "v", "d"), closure(2, "lit"), closure(3, "top"))
        before = [[0, 0, 0, 0, 1], [0, 1, 0, 0, 0, 1, 0, 1, 1, 1, 1, 0, 0]]
        self.assertEqual(told[1:3], before)
        self.assertEqual(told[4], before[0])
        self.assertEqual(fours(told[5]), [((0, one), (0, other)) for one in (0, 1) for other in (0, 1)])
        self.assertEqual(fours(told[6]), [((1, one), other) for one in (0, 1) for other in ((0, 0), (1, 0), (1, 1))])
        self.assertEqual(told[8:], before)

    def test_pairs_from_below_count_at_children_alone(self):
        told = ask(load(EXAMPLE.replace("# + d", "#")), assume("E", "d", "v"), closure(1, "lit"), closure(1, "top"),
                   closure(2, "lit"), closure(3, "lit"), closure(0, "top"))
        self.assertEqual(told[2:], [[0], [0, 1, 0, 0, 0, 1, 0, 1, 1, 1, 1, 0, 0], [0], [0, 0, 0, 0, 1], [0, 1, 1, 0, 0]])

    def test_pairs_from_above_count_at_place_0_alone(self):
        text = EXAMPLE.replace("# + d", "#")
        for kind, lit, top in ((1, [], [((1, 1), (0, 0))]), (2, [((0, 1), (0, 0))], [((1, 1), (0, 0))]),
                               (3, [((0, 1), (0, 0))], [((1, 1), (0, 0)), ((1, 1), (1, 0))])):
            told = ask(load(text), assume("E", "v", "d"), closure(kind, "lit"), closure(kind, "top"))
            self.assertEqual([fours(answer) for answer in told[2:]], [lit, top])


class Refusals(unittest.TestCase):
    def test_no_grammar_comes_first(self):
        self.assertEqual(ask(closure(1, "p"), closure(4, ""), closure(-BIG, "p")), [[-4], [-4], [-4]])

    def test_no_kind(self):
        for kind in (4, 5, -1, -2, -4, 100, 2 ** 32, 2 ** 59 + 1, BIG, -BIG):
            self.assertEqual(ask_last(load(EXAMPLE), closure(kind, "lit")), [-10], kind)

    def test_no_kind_ahead_of_no_production(self):
        self.assertEqual(ask_last(load(EXAMPLE), closure(4, "x")), [-10])
        self.assertEqual(ask_last(load(EXAMPLE), closure(BIG, "")), [-10])

    def test_no_production(self):
        for name in ("", "x", "Lit", "E", "d", "lit" * 33, [1]):
            for kind in range(4):
                self.assertEqual(ask_last(load(EXAMPLE), closure(kind, name)), [-11], name)


if __name__ == "__main__":
    unittest.main()
