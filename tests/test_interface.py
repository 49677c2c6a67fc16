"""The interface: calls one behind another in a list, and their answers."""

import contextlib
import io
import unittest

from hangson.arrows import answers
from tests.helper import (
    EXAMPLE, arrows, ask, assume, circle, closure, graph, load, release, rounds, spread, verdict, way, why,
)

BIG = 10 ** 18


def joined(*calls):
    return [number for call in calls for number in call]


class Answers(unittest.TestCase):
    def test_counts_ahead(self):
        calls = joined(arrows("lit"), load(EXAMPLE), arrows("lit"), assume("E", "v", "d"), graph(2, "E"), closure(0, "top"),
                       release("E", "v", "d"), graph(2, "E"))
        self.assertEqual(answers(calls), [
            1, -4, 3, 0, 2, 3, 5, 0, 0, 0, 0, 1, 1, 0, 3, 0, 1, 0, 5, 0, 1, 1, 0, 0, 1, 1, 1, 0])

    def test_each_call_by_its_number(self):
        text = list(b"S a > v; p S: { v = a; }")
        name = list(b"S")
        line = [0, len(text)] + text
        self.assertEqual(answers(line + [1, 1] + list(b"p")), [3, 0, 1, 1, 5, 0, 0, 0, 0, 1])
        self.assertEqual(answers(line + [2, 1] + name + [1] + list(b"a") + [1] + list(b"v")), [3, 0, 1, 1, 1, 0])
        self.assertEqual(answers(line + [3, 1] + name + [1] + list(b"a") + [1] + list(b"v")), [3, 0, 1, 1, 1, 0])
        self.assertEqual(answers(line + [4, 1, 1] + name), [3, 0, 1, 1, 3, 0, 0, 1])
        self.assertEqual(answers(line + [5, 2, 1] + list(b"p")), [3, 0, 1, 1, 5, 0, 0, 0, 0, 1])
        self.assertEqual(answers(line + [6]), [3, 0, 1, 1, 5, 0, 1, 1, 1, 1])
        self.assertEqual(answers(line + [7, 2]), [3, 0, 1, 1, 1, 1])
        self.assertEqual(answers(line + [8, 2, 0, 0, 0, 1, 1] + list(b"p")), [3, 0, 1, 1, 6, 0, 2, 0, 0, 0, 1])
        self.assertEqual(answers(line + [9, 1] + name + [1] + list(b"a") + [1] + list(b"v")),
                         [3, 0, 1, 1, 8, 0, 1, 0, 2, 0, 0, 0, 1])
        self.assertEqual(answers(line + [10, 1] + name + [1] + list(b"a")), [3, 0, 1, 1, 3, 0, 0, 1])
        self.assertEqual(answers(line + [11]), [3, 0, 1, 1, 4, 0, 1, 0, 1])

    def test_all_calls_one_behind_another(self):
        told = ask(load(EXAMPLE), rounds(), verdict(), circle(2), way(1, (1, 0), (0, 0), "top"), why("E", "d", "v"),
                   spread("E", "v"), rounds(), assume("E", "v", "d"), circle(2), verdict(), release("E", "v", "d"), verdict(),
                   graph(1, "E"), closure(0, "lit"), arrows("lit"))
        self.assertEqual(told, [
            [0, 2, 3], [0, 1, 0, 1], [0, 1, 1, 1, 1], [1], [0, 3, 1, 0, 1, 1, 0, 0], [0, 1, 1, 2, 0, 0, 0, 1],
            [0, 0, 0, 1, 1], [0, 1, 0, 1], [0], [0, 1, 2, 0, 0, 0, 1], [0, 1, 1, 0, 0], [1], [0, 1, 1, 1, 1],
            [0, 0, 1], [0, 0, 0, 0, 1], [0, 0, 0, 0, 1]])

    def test_no_grammar_comes_first(self):
        # Whatever else is wrong with the calls.
        wrong = [arrows(""), assume("", "", ""), release("", "", ""), graph(9, ""), closure(9, ""), verdict(), circle(9),
                 way(9, (-1, BIG), (BIG, -1), ""), why("", "", ""), spread("", ""), rounds()]
        for refused in ([], [load("x")], [load("S > v;")], [load(" " * 3001)]):
            told = ask(*refused, *wrong)
            self.assertEqual(told[len(refused):], [[-4]] * 11)

    def test_refused_calls_change_nothing(self):
        asked = [graph(2, "E"), graph(3, "E"), closure(2, "lit"), verdict(), circle(2), circle(3), why("E", "d", "v"),
                 way(3, (1, 0), (1, 0), "top"), spread("E", "d"), rounds()]
        wrong = [load("x"), load("S > v;"), load(" " * 3001), arrows("x"), assume("E", "v", "d"), assume("X", "v", "d"),
                 assume("E", "x", "d"), assume("S", "v", "v"), release("X", "v", "d"), release("E", "v", "x"), graph(0, "E"),
                 graph(1, "X"), closure(-1, "lit"), closure(1, "x"), circle(-1), circle(BIG), way(4, (0, 0), (0, 0), "lit"),
                 way(0, (0, 0), (0, 0), "x"), way(0, (0, 0), (0, 2), "lit"), why("X", "d", "v"), why("E", "x", "v"),
                 why("E", "v", "d"), spread("X", "d"), spread("E", "x")]
        numbers = [-2, -3, -1, -11, -8, -5, -6, -7, -5, -6, -10, -5, -10, -11, -10, -10, -10, -11, -12, -5, -6, -13, -5, -6]
        for call, number in zip(wrong, numbers, strict=True):
            told = ask(load(EXAMPLE), assume("E", "v", "d"), *asked, call, *asked)
            self.assertEqual(told[12], [number], call)
            self.assertEqual(told[2:12], told[13:], call)

    def test_a_list_of_plain_whole_numbers(self):
        told = answers(joined(load(EXAMPLE), release("E", "v", "d"), graph(3, "E"), arrows("none")))
        self.assertIs(type(told), list)
        self.assertEqual({type(number) for number in told}, {int})

    def test_empty_names_and_texts(self):
        told = ask(load(""), load(EXAMPLE), arrows(""), assume("", "d", "v"), assume("E", "", "v"), assume("E", "d", ""),
                   release("", "", ""), release("E", "", ""), graph(1, ""), closure(1, ""), way(1, (0, 0), (0, 0), ""),
                   why("", "d", "v"), why("E", "", "v"), why("E", "d", ""), spread("", "d"), spread("E", ""))
        self.assertEqual(told, [[-3], [0, 2, 3], [-11], [-5], [-6], [-6], [-5], [-6], [-5], [-11], [-11], [-5], [-6], [-6],
                                [-5], [-6]])

    def test_names_of_100_bytes(self):
        for name in (list(b"E" * 100), list(range(100)), list(range(156, 256)), [0] * 100):
            told = ask(load(EXAMPLE), arrows(name), assume(name, "d", "v"), assume("E", name, "v"), assume("E", "d", name),
                       release(name, name, name), release("E", name, "v"), graph(1, name), closure(1, name), graph(1, "E"),
                       way(1, (0, 0), (0, 0), name), why(name, "d", "v"), why("E", "d", name), spread(name, "d"),
                       spread("E", name), spread("E", "v"))
            self.assertEqual(told[1:], [[-11], [-5], [-6], [-6], [-5], [-6], [-5], [-11], [0, 0, 1], [-11], [-5], [-6], [-5],
                                        [-6], [0, 0, 0, 1, 1]])

    def test_names_with_a_call_within(self):
        # The bytes of a name are passed over, whatever call they would be.
        told = ask(load(EXAMPLE), arrows([4, 1, 1, 69]), graph(1, "E"), graph(1, [1, 3]), graph(2, "E"))
        self.assertEqual(told[1:], [[-11], [0, 0, 1], [-5], [0]])

    def test_400_calls(self):
        calls = [load(EXAMPLE)]
        wanted = [[0, 2, 3]]
        for k in range(133):
            calls.extend([assume("E", "v", "d"), graph(2, "E"), release("E", "v", "d")])
            wanted.extend([[0], [0, 1, 0], [1]])
        self.assertEqual(len(calls), 400)
        self.assertEqual(ask(*calls), wanted)

    def test_400_calls_with_large_answers(self):
        names = [f"{place}.{name}" for place in range(4) for name in "abcd"]
        rules = "".join(f"{names[k]} = {names[k - 1]};" for k in range(16))
        text = "S > a b c d; T a b c d > ; q T: {} p S: T T T {" + rules + "}"
        told = ask(load(text), *[closure(k % 4, "p") for k in range(399)])
        self.assertEqual({len(answer) for answer in told[1:]}, {1025})

    def test_a_list_of_17000_numbers(self):
        calls = joined(*[load(EXAMPLE.ljust(3000)) for k in range(4)], load(EXAMPLE.ljust(3998)),
                       *[graph(k % 5, "E") for k in range(247)])
        self.assertLessEqual(len(calls), 17000)
        self.assertGreater(len(calls), 16900)
        told = answers(calls)
        self.assertEqual(told[:18], [3, 0, 2, 3] * 4 + [1, -1])

    def test_a_large_grammar_with_many_changes(self):
        text = "".join(f"{name} a b > c e;" for name in "ABCDEFGHIJKL")
        for k, name in enumerate("ABCDEFGHIJKL"):
            low = "ABCDEFGHIJKL"[(k + 1) % 12]
            text += f"p{k} {name}: {low} {{ c = 1.e; e = 1.c + b; 1.a = b; 1.b = a + 1.c; }} q{k} {name}: {{ c = 0; e = a; }}"
        calls = [load(text)]
        for k in range(99):
            calls.extend([assume("L", "e", "a"), graph(2, "A"), release("L", "e", "a"), graph(3, "A")])
        told = ask(*calls)
        self.assertEqual(told[0], [0, 12, 24])
        self.assertEqual(told[1:5] * 99, told[1:])
        calls = [load(text)]
        for k in range(66):
            calls.extend([assume("L", "e", "a"), verdict(), circle(k % 4), release("L", "e", "a"), rounds(),
                          why("A", "b", "e")])
        told = ask(*calls)
        self.assertEqual(told[1:25] * 16, told[1:385])


class NothingKept(unittest.TestCase):
    def test_the_list_is_not_changed(self):
        calls = joined(load(EXAMPLE), arrows("top"), assume("E", "v", "d"), graph(3, "E"), closure(3, "add"),
                       verdict(), circle(3), way(3, (1, 0), (1, 0), "top"), why("E", "d", "v"), spread("E", "d"), rounds(),
                       release("E", "v", "d"), load(" " * 3001), load("$"))
        before = list(calls)
        answers(calls)
        self.assertEqual(calls, before)

    def test_nothing_is_kept_from_one_time_to_the_next(self):
        calls = joined(load(EXAMPLE), assume("E", "v", "d"), graph(2, "E"))
        first = answers(calls)
        self.assertEqual(answers(arrows("top")), [1, -4])
        self.assertEqual(answers(assume("E", "v", "d")), [1, -4])
        self.assertEqual(answers(calls), first)
        self.assertEqual(answers(joined(load(EXAMPLE), graph(2, "E"))), [3, 0, 2, 3, 1, 0])

    def test_answers_are_lists_of_their_own(self):
        calls = joined(load(EXAMPLE), graph(1, "E"))
        first = answers(calls)
        first.clear()
        self.assertEqual(answers(calls), [3, 0, 2, 3, 3, 0, 0, 1])

    def test_nothing_is_printed(self):
        shown = io.StringIO()
        with contextlib.redirect_stdout(shown), contextlib.redirect_stderr(shown):
            answers(joined(load(EXAMPLE), graph(1, "E"), load("$"), graph(9, "E")))
        self.assertEqual(shown.getvalue(), "")


if __name__ == "__main__":
    unittest.main()
