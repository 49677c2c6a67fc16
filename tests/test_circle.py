"""Promise 8, circle: the first production with a circle, and the first of its shortest ones."""

import unittest

from tests.helper import EXAMPLE, ask, ask_last, assume, circle, load, release
from tests.test_verdict import JOINED_ALONE, TURNED, TWO_CONTEXTS

BIG = 10 ** 18


def first(text, kind=0, *calls):
    """The production's number and the occurrences of the first circle."""
    answer = ask_last(load(text), *calls, circle(kind))
    if answer[0] != 0 or len(answer) != 3 + 2 * answer[2]:
        raise AssertionError(f"no circle: {answer}")
    return answer[1], [(answer[k], answer[k + 1]) for k in range(3, len(answer), 2)]


class Circle(unittest.TestCase):
    def test_free(self):
        for kind in range(4):
            self.assertEqual(ask_last(load(EXAMPLE), circle(kind)), [1])
            self.assertEqual(ask_last(load("S > ; s S: {}"), circle(kind)), [1])

    def test_free_of_some_kinds(self):
        self.assertEqual(ask(load(TURNED), *[circle(kind) for kind in range(4)])[1:], [
            [1], [0, 1, 2, 1, 0, 1, 1], [0, 0, 2, 0, 0, 0, 1], [0, 0, 1, 0, 0]])
        self.assertEqual(ask(load(TWO_CONTEXTS), *[circle(kind) for kind in range(4)])[1:], [
            [1], [1], [0, 0, 4, 0, 0, 0, 3, 0, 1, 0, 2], [0, 0, 1, 0, 0]])
        self.assertEqual(ask(load(JOINED_ALONE), *[circle(kind) for kind in range(4)])[1:], [
            [1], [1], [1], [0, 0, 1, 0, 0]])

    def test_an_arrow_to_itself(self):
        for kind in range(4):
            self.assertEqual(ask_last(load("S > v; s S: { v = v; }"), circle(kind)), [0, 0, 1, 0, 0])

    def test_the_first_production_though_a_later_has_a_shorter_one(self):
        text = "S > a b; r S: { a = 0; b = 0; } s S: { a = b; b = a; } t S: { a = a; b = 0; }"
        self.assertEqual(first(text), (1, [(0, 0), (0, 1)]))

    def test_the_first_production_is_that_of_this_kind(self):
        # By the family from below the production of number 1 has a circle, by its own arrows only that of number 2.
        text = "S > v; E d > v; e E: { v = d; } s S: E { v = 0; 1.d = 1.v; } t S: { v = v; }"
        self.assertEqual(first(text, 0), (2, [(0, 0)]))
        self.assertEqual(first(text, 1), (1, [(1, 0), (1, 1)]))

    def test_the_shortest(self):
        self.assertEqual(first("S > a b c e; s S: { a = b; b = a; c = c; e = 0; }"), (0, [(0, 2)]))
        self.assertEqual(first("S > a b c e; s S: { a = b; b = c; c = a + e; e = c; }"), (0, [(0, 2), (0, 3)]))

    def test_the_first_of_those_equally_short(self):
        self.assertEqual(first("S > a b c e; s S: { a = e; e = a; b = c; c = b; }"), (0, [(0, 0), (0, 3)]))
        self.assertEqual(first("S > a b c e; s S: { b = e; e = b; a = c; c = a; }"), (0, [(0, 0), (0, 2)]))
        self.assertEqual(first("S > a b c e; s S: { c = a; e = a; a = c + e; b = 0; }"), (0, [(0, 0), (0, 2)]))
        self.assertEqual(first("S > a b c; s S: { a = 0; b = b; c = c; }"), (0, [(0, 1)]))

    def test_the_first_at_the_last_difference(self):
        self.assertEqual(first("S > a b c e; s S: { b = a; c = b; e = b; a = c + e; }"), (0, [(0, 0), (0, 1), (0, 2)]))

    def test_the_second_occurrence_decides_ahead_of_the_third(self):
        # a, b, 1.d and a, c, e: the first comes ahead, though e comes ahead of 1.d.
        text = "S > a b c e; T d > ; t T: {} s S: T { b = a; 1.d = b; c = a; e = c; a = 1.d + e; }"
        self.assertEqual(first(text), (1, [(0, 0), (0, 1), (1, 0)]))

    def test_along_the_arrows(self):
        self.assertEqual(first("S > a b c; s S: { c = a; b = c; a = b; }"), (0, [(0, 0), (0, 2), (0, 1)]))
        self.assertEqual(first("S > a b c; s S: { b = a; c = b; a = c; }"), (0, [(0, 0), (0, 1), (0, 2)]))

    def test_a_longer_circle_through_an_earlier_occurrence(self):
        # a stands on a circle of three, b on one of two.
        text = "S > a b c e; s S: { b = a + c; c = b; e = c; a = e; }"
        self.assertEqual(first(text), (0, [(0, 1), (0, 2)]))

    def test_at_children(self):
        text = "S > v; E d > v; e E: { v = d; } f E: { v = 0; } s S: E E { v = 0; 1.d = 2.v; 2.d = 1.v; }"
        self.assertEqual(first(text, 1), (2, [(1, 0), (1, 1), (2, 0), (2, 1)]))
        self.assertEqual(ask_last(load(text), circle(0)), [1])

    def test_the_longest(self):
        names = [f"{place}.{name}" for place in range(4) for name in "abcd"]
        rules = "".join(f"{names[k]} = {names[k - 1]};" for k in range(16))
        text = "S > a b c d; T a b c d > ; q T: {} p S: T T T {" + rules + "}"
        occurrences = [(place, k) for place in range(4) for k in range(4)]
        for kind in (0, 1, 2):
            self.assertEqual(first(text, kind), (1, occurrences))
        rules = "".join(f"{names[k - 1]} = {names[k]};" for k in range(16))
        text = "S > a b c d; T a b c d > ; q T: {} p S: T T T {" + rules + "}"
        self.assertEqual(first(text), (1, occurrences[:1] + occurrences[:0:-1]))


class Assumed(unittest.TestCase):
    def test_the_example(self):
        kinds = [circle(kind) for kind in range(4)]
        told = ask(load(EXAMPLE), assume("E", "v", "d"), *kinds, release("E", "v", "d"), *kinds)
        self.assertEqual(told[2:6], [[1], [1], [0, 1, 2, 0, 0, 0, 1], [0, 0, 1, 1, 0]])
        self.assertEqual(told[7:], [[1]] * 4)

    def test_a_pair_from_below(self):
        text = "S > v; E d > v; e E: { v = 0; } s S: E { v = 0; 1.d = 1.v; }"
        told = ask(load(text), circle(1), assume("E", "d", "v"), circle(0), circle(1), circle(2), circle(3))
        self.assertEqual(told[1:], [[1], [0], [1], [0, 1, 2, 1, 0, 1, 1], [0, 1, 2, 1, 0, 1, 1], [0, 0, 1, 0, 0]])


class Refusals(unittest.TestCase):
    def test_no_grammar_comes_first(self):
        self.assertEqual(ask(circle(0), circle(4), circle(-BIG)), [[-4], [-4], [-4]])

    def test_no_kind(self):
        for text in (EXAMPLE, TURNED):
            for kind in (4, 5, -1, -2, -3, -4, 100, 2 ** 32, 2 ** 59 + 1, BIG, -BIG):
                self.assertEqual(ask_last(load(text), circle(kind)), [-10], kind)


if __name__ == "__main__":
    unittest.main()
