"""Promise 9, way: the first of the shortest ways between two occurrences."""

import unittest

from tests.helper import EXAMPLE, ask, ask_last, assume, load, release, way
from tests.test_closure import KINDS

BIG = 10 ** 18


def first(text, start, end, kind=0, production="s"):
    """The occurrences of the first way."""
    answer = ask_last(load(text), way(kind, start, end, production))
    if answer[0] != 0 or len(answer) != 2 + 2 * answer[1]:
        raise AssertionError(f"no way: {answer}")
    return [(answer[k], answer[k + 1]) for k in range(2, len(answer), 2)]


class Way(unittest.TestCase):
    def test_one_arrow(self):
        self.assertEqual(ask_last(load(EXAMPLE), way(0, (0, 0), (0, 1), "lit")), [0, 2, 0, 0, 0, 1])

    def test_none(self):
        for start, end in (((0, 1), (0, 0)), ((0, 0), (0, 0)), ((0, 1), (0, 1))):
            self.assertEqual(ask_last(load(EXAMPLE), way(0, start, end, "lit")), [0, 0])

    def test_several_arrows(self):
        text = "S a > b c e; s S: { b = a; c = b; e = c; }"
        self.assertEqual(first(text, (0, 0), (0, 3)), [(0, 0), (0, 1), (0, 2), (0, 3)])
        self.assertEqual(first(text, (0, 1), (0, 3)), [(0, 1), (0, 2), (0, 3)])

    def test_the_shortest(self):
        text = "S a > b c e; s S: { b = a; c = b; e = c + a; }"
        self.assertEqual(first(text, (0, 0), (0, 3)), [(0, 0), (0, 3)])
        # By b, which comes first, it's farther.
        text = "S > a b c e; s S: { a = 0; b = a; e = b; c = a + e; }"
        self.assertEqual(first(text, (0, 0), (0, 2)), [(0, 0), (0, 2)])

    def test_the_first_step_that_is_not_the_first_arrow(self):
        text = "S > a b c e; T d f > ; t T: {} s S: T { a = 0; b = a; c = a; e = b; 1.d = e + c; 1.f = 0; }"
        self.assertEqual(first(text, (0, 0), (1, 0)), [(0, 0), (0, 2), (1, 0)])

    def test_the_first_of_those_equally_short(self):
        text = "S a > b c e; s S: { c = a; b = a; e = c + b; }"
        self.assertEqual(first(text, (0, 0), (0, 3)), [(0, 0), (0, 1), (0, 3)])

    def test_the_second_occurrence_decides_ahead_of_the_third(self):
        # a, b, 1.d, 1.f comes ahead of a, c, e, 1.f, though e comes ahead of 1.d.
        text = "S > a b c e; T d f > ; t T: {} s S: T { a = 0; b = a; c = a; 1.d = b; e = c; 1.f = 1.d + e; }"
        self.assertEqual(first(text, (0, 0), (1, 1)), [(0, 0), (0, 1), (1, 0), (1, 1)])

    def test_places_come_ahead_of_attributes(self):
        text = "S > a b; T d f > ; t T: {} s S: T T { a = 0; 1.f = a; 2.d = a; b = 1.f + 2.d; 1.d = 0; 2.f = 0; }"
        self.assertEqual(first(text, (0, 0), (0, 1)), [(0, 0), (1, 1), (0, 1)])

    def test_back_to_itself(self):
        text = "S > a b c e; s S: { a = a; b = c; c = b; e = b; }"
        self.assertEqual(first(text, (0, 0), (0, 0)), [(0, 0), (0, 0)])
        self.assertEqual(first(text, (0, 1), (0, 1)), [(0, 1), (0, 2), (0, 1)])
        self.assertEqual(first(text, (0, 2), (0, 2)), [(0, 2), (0, 1), (0, 2)])
        self.assertEqual(first(text, (0, 3), (0, 3)), [])

    def test_back_to_itself_by_the_first_of_several(self):
        text = "S > a b c e; s S: { b = e; c = e; e = b + c; a = 0; }"
        self.assertEqual(first(text, (0, 3), (0, 3)), [(0, 3), (0, 1), (0, 3)])

    def test_past_an_arrow_to_itself(self):
        text = "S > a b c; s S: { a = a; b = a + b; c = b; }"
        self.assertEqual(first(text, (0, 0), (0, 2)), [(0, 0), (0, 1), (0, 2)])
        self.assertEqual(first(text, (0, 1), (0, 0)), [])

    def test_the_longest(self):
        names = [f"{place}.{name}" for place in range(4) for name in "abcd"]
        rules = "".join(f"{names[k]} = {names[k - 1]};" for k in range(16))
        text = "S > a b c d; T a b c d > ; q T: {} s S: T T T {" + rules + "}"
        occurrences = [(place, k) for place in range(4) for k in range(4)]
        self.assertEqual(first(text, (0, 0), (3, 3)), occurrences)
        self.assertEqual(first(text, (0, 1), (0, 0)), occurrences[1:] + occurrences[:1])
        self.assertEqual(first(text, (2, 0), (2, 0)), occurrences[8:] + occurrences[:9])


class Kinds(unittest.TestCase):
    def test_each_kind(self):
        through = [(0, 0), (1, 0), (1, 1), (0, 1)]
        for kind, wanted in ((0, []), (1, through), (2, through), (3, [(0, 0), (0, 1)])):
            self.assertEqual(first(KINDS, (0, 0), (0, 1), kind, "top"), wanted)

    def test_from_above(self):
        for kind, wanted in ((0, []), (1, []), (2, [(0, 1), (0, 0)]), (3, [(0, 1), (0, 0)])):
            self.assertEqual(first(KINDS, (0, 1), (0, 0), kind, "lit"), wanted)
        for kind, wanted in ((0, []), (1, []), (2, [(0, 0), (0, 1), (0, 0)]), (3, [(0, 0), (0, 0)])):
            self.assertEqual(first(KINDS, (0, 0), (0, 0), kind, "lit"), wanted)

    def test_assumed_and_released(self):
        asked = [way(kind, (0, 0), (0, 0), "lit") for kind in range(4)]
        told = ask(load(EXAMPLE), *asked, assume("E", "v", "d"), *asked, release("E", "v", "d"), *asked)
        self.assertEqual(told[1:5], [[0, 0]] * 4)
        self.assertEqual(told[6:10], [[0, 0], [0, 0], [0, 3, 0, 0, 0, 1, 0, 0], [0, 2, 0, 0, 0, 0]])
        self.assertEqual(told[11:], [[0, 0]] * 4)


class Refusals(unittest.TestCase):
    def test_no_grammar_comes_first(self):
        self.assertEqual(ask(way(0, (0, 0), (0, 1), "lit"), way(-1, (-1, -1), (9, 9), "")), [[-4], [-4]])

    def test_no_kind(self):
        for kind in (4, 5, -1, -2, -4, 100, 2 ** 32, BIG, -BIG):
            self.assertEqual(ask_last(load(EXAMPLE), way(kind, (0, 0), (0, 1), "lit")), [-10], kind)

    def test_no_kind_comes_ahead(self):
        self.assertEqual(ask_last(load(EXAMPLE), way(4, (0, 0), (0, 1), "x")), [-10])
        self.assertEqual(ask_last(load(EXAMPLE), way(-1, (5, 5), (0, 1), "lit")), [-10])
        self.assertEqual(ask_last(load(EXAMPLE), way(BIG, (BIG, BIG), (-BIG, BIG), "")), [-10])

    def test_no_production(self):
        for name in ("", "x", "Lit", "E", "d", "lit" * 33, [1]):
            for kind in range(4):
                self.assertEqual(ask_last(load(EXAMPLE), way(kind, (0, 0), (0, 1), name)), [-11], name)

    def test_no_production_ahead_of_no_occurrence(self):
        self.assertEqual(ask_last(load(EXAMPLE), way(0, (9, 0), (0, 9), "x")), [-11])
        self.assertEqual(ask_last(load(EXAMPLE), way(3, (-BIG, 0), (0, -1), "")), [-11])

    def test_no_occurrence(self):
        # top has the occurrences 0 0, 1 0 and 1 1.
        none = [(0, 1), (1, 2), (2, 0), (3, 0), (4, 0), (-1, 0), (-1, 1), (-2, 0), (0, -1), (1, -1), (1, -2), (-1, -1),
                (2 ** 32, 0), (0, 2 ** 32), (2 ** 64 // 32, 0), (BIG, 0), (0, BIG), (-BIG, 0), (0, -BIG), (BIG, BIG), (1, BIG)]
        for occurrence in none:
            for kind in range(4):
                told = ask(load(EXAMPLE), way(kind, occurrence, (0, 0), "top"), way(kind, (1, 1), occurrence, "top"),
                           way(kind, occurrence, occurrence, "top"))
                self.assertEqual(told[1:], [[-12]] * 3, occurrence)

    def test_occurrences_of_other_productions(self):
        told = ask(load(EXAMPLE), way(0, (1, 0), (0, 1), "lit"), way(0, (2, 1), (0, 1), "add"), way(0, (2, 1), (0, 0), "top"),
                   way(0, (3, 0), (0, 1), "add"))
        self.assertEqual(told[1:], [[-12], [0, 2, 2, 1, 0, 1], [-12], [-12]])

    def test_no_occurrence_at_all(self):
        self.assertEqual(ask_last(load("S > ; s S: {}"), way(0, (0, 0), (0, 0), "s")), [-12])

    def test_refused_calls_change_nothing(self):
        told = ask(load(EXAMPLE), assume("E", "v", "d"), way(2, (0, 0), (0, 0), "lit"), way(4, (0, 0), (0, 0), "lit"),
                   way(2, (0, 0), (0, 0), "x"), way(2, (0, 2), (0, 0), "lit"), way(2, (0, 0), (0, 0), "lit"))
        self.assertEqual(told[2], told[-1])
        self.assertEqual(told[3:6], [[-10], [-11], [-12]])


if __name__ == "__main__":
    unittest.main()
