"""Promise 1, load: which texts can be read, which of them are grammars, and what a load changes."""

import unittest

from tests.helper import EXAMPLE, arrows, ask, ask_last, assume, closure, graph, load, release

SMALL = "S > v; p S: { v = 0; }"


def loaded(text):
    return ask_last(load(text))


class Reading(unittest.TestCase):
    """What can't be read is refused with -2, even where it would be no grammar either."""

    def refuses(self, *texts):
        for text in texts:
            self.assertEqual(loaded(text), [-2], text)
            self.assertEqual(loaded(SMALL + " " + text), [-2], text)
            self.assertEqual(loaded(text + " " + SMALL), [-2], text)

    def test_the_example(self):
        self.assertEqual(loaded(EXAMPLE), [0, 2, 3])

    def test_order_of_symbols_and_productions_is_free(self):
        self.assertEqual(loaded("p S: T { v = 1.v; } S > v; q T: { v = 1; } T > v;"), [0, 2, 2])

    def test_symbols_wrong(self):
        self.refuses("S", "S v", "S >", "S > v", "S ;", "S v;", "S > ; ;", "S > > ;", "> v;", "S v, w > ;", "S S > ;",
                     "S > S;", "S > 1;", "S: > v;", "S > v:", "S # > v;", "S > v w x if;")

    def test_productions_wrong(self):
        self.refuses("p", "p S", "p S:", "p S: {", "p S }", "p S: }", "p S {}", "p: {}", "p S: { v = 0 }", "p S: { v = 0; ",
                     "p S #{}", "p S ##: {}", "p # S: {}", "p S: # {}", "p S: s {}", "p S: S, S {}", "p p: {}", "p S: {};",
                     "p S: {}}", "p S T: {}", "S S: {}", "p S: 1 {}", "1 S: {}")

    def test_rules_wrong(self):
        for rule in (";", "v;", "v = ;", "= 0;", "v 0;", "v = 0;;", "v == 0;", "1 v = 0;", "1. = 0;", ".v = 0;", "1.1 = 0;",
                     "1.V = 0;", "V = 0;", "v = 0, w = 0;", "(v) = 0;", "# = 0;", "?;", "?", "? 0", "v ? 0;", "? ? 0;",
                     "1 = 0;", "v.1 = 0;", "-1.v = 0;", "v = 0: ", "if = 0;", "{ v = 0; }", "1.v 0;", "v < 0;"):
            self.refuses("p S: { " + rule + " }")

    def test_signs_alone(self):
        for sign in ";:{}()[],.=<>+-*/%&|!?#":
            self.refuses(sign)
        self.refuses("1", "if", "then", "else", "0 S > v;")

    def test_a_second_hash_or_bracket(self):
        self.assertEqual(loaded("S > v; p S # : { v = #; }"), [0, 1, 1])
        self.assertEqual(loaded("S > ; p S : { }"), [0, 1, 1])


class Symbols(unittest.TestCase):
    def many(self, count):
        names = ["S" + str(k) for k in range(count)]
        return "".join(f"{name} > v; p{k} {name}: {{ v = 0; }}" for k, name in enumerate(names))

    def test_none(self):
        self.assertEqual(loaded(""), [-3])
        self.assertEqual(loaded("\n "), [-3])
        self.assertEqual(loaded("p S: {}"), [-3])

    def test_one_to_twelve(self):
        for count in range(1, 13):
            self.assertEqual(loaded(self.many(count)), [0, count, count])

    def test_thirteen(self):
        self.assertEqual(loaded(self.many(13)), [-3])

    def test_names_twice(self):
        self.assertEqual(loaded("S > v; S > v; p S: { v = 0; }"), [-3])
        self.assertEqual(loaded("S > v; T > ; S > ; p S: { v = 0; } q T: {}"), [-3])

    def test_four_attributes(self):
        for head in ("> a b c d", "a > b c d", "a b > c d", "a b c > d", "a b c d >"):
            handed_up = head.split(">")[1].split()
            rules = "".join(name + " = 0; " for name in handed_up)
            self.assertEqual(loaded(f"S {head}; p S: {{ {rules} }}"), [0, 1, 1])

    def test_five_attributes(self):
        for head in ("> a b c d e", "a > b c d e", "a b > c d e", "a b c > d e", "a b c d > e", "a b c d e >"):
            handed_up = head.split(">")[1].split()
            rules = "".join(name + " = 0; " for name in handed_up)
            self.assertEqual(loaded(f"S {head}; p S: {{ {rules} }}"), [-3])

    def test_attributes_twice(self):
        self.assertEqual(loaded("S > v v; p S: { v = 0; }"), [-3])
        self.assertEqual(loaded("S v v > ; p S: { }"), [-3])
        self.assertEqual(loaded("S v > v; p S: { v = 0; }"), [-3])
        self.assertEqual(loaded("S > v; T > v; p S: { v = 0; } q T: { v = 0; }"), [0, 2, 2])


class Productions(unittest.TestCase):
    def test_24_and_25(self):
        text = "S > v;" + "".join(f"p{k} S: {{ v = 0; }}" for k in range(24))
        self.assertEqual(loaded(text), [0, 1, 24])
        self.assertEqual(loaded(text + "p24 S: { v = 0; }"), [-3])

    def test_names_twice(self):
        self.assertEqual(loaded("S > v; p S: { v = 0; } p S: { v = 1; }"), [-3])
        self.assertEqual(loaded("S > v; T > ; p S: { v = 0; } q S: { v = 0; } p T: {}"), [-3])

    def test_a_production_may_be_called_like_an_attribute(self):
        self.assertEqual(loaded("S > v; v S: { v = 0; } len S: { v = 0; }"), [0, 1, 2])

    def test_three_and_four_children(self):
        text = "S > v; p S: { v = 0; } q S: "
        self.assertEqual(loaded(text + "S S S { v = 3.v; }"), [0, 1, 2])
        self.assertEqual(loaded(text + "S S S S { v = 3.v; }"), [-3])

    def test_24_and_25_rules(self):
        text = "S > v; p S: { v = 0; " + "? 1; " * 23
        self.assertEqual(loaded(text + "}"), [0, 1, 1])
        self.assertEqual(loaded(text + "? 1; }"), [-3])

    def test_the_most_equations(self):
        text = "S > v; T a b c d > ; p T: {} q S: T T T { v = 0; "
        text += "".join(f"{place}.{name} = v; " for place in (1, 2, 3) for name in "abcd")
        self.assertEqual(loaded(text + "? 1; " * 11 + "}"), [0, 2, 2])
        self.assertEqual(loaded(text + "? 1; " * 12 + "}"), [-3])

    def test_symbols_not_declared(self):
        self.assertEqual(loaded(SMALL + "q T: {}"), [-3])
        self.assertEqual(loaded(SMALL + "q S: T { v = 0; }"), [-3])
        self.assertEqual(loaded(SMALL + "q S: S T { v = 0; }"), [-3])
        self.assertEqual(loaded(SMALL + "q S: T { v = 0; } T > ; r T: {}"), [0, 2, 3])


class Equations(unittest.TestCase):
    HEAD = "S a > v; p S: { v = 0; } q S: S S { "

    def rules(self, text):
        return loaded(self.HEAD + text + " }")

    def test_each_defined_once(self):
        self.assertEqual(self.rules("v = 1; 1.a = 2; 2.a = 3;"), [0, 1, 2])
        self.assertEqual(self.rules("2.a = 3; 1.a = 2; ? 1; 0.v = 1; ? 2;"), [0, 1, 2])

    def test_not_defined(self):
        self.assertEqual(self.rules("1.a = 2; 2.a = 3;"), [-3])
        self.assertEqual(self.rules("v = 1; 2.a = 3;"), [-3])
        self.assertEqual(self.rules("v = 1; 1.a = 2;"), [-3])
        self.assertEqual(self.rules(""), [-3])
        self.assertEqual(self.rules("? v; 1.a = 2; 2.a = 3;"), [-3])

    def test_defined_twice(self):
        self.assertEqual(self.rules("v = 1; v = 1; 1.a = 2; 2.a = 3;"), [-3])
        self.assertEqual(self.rules("v = 1; 0.v = 1; 1.a = 2; 2.a = 3;"), [-3])
        self.assertEqual(self.rules("v = 1; 1.a = 2; 2.a = 3; 01.a = 4;"), [-3])

    def test_not_to_be_defined(self):
        for rule in ("a = 1;", "0.a = 1;", "1.v = 1;", "2.v = 1;"):
            self.assertEqual(self.rules("v = 1; 1.a = 2; 2.a = 3; " + rule), [-3], rule)

    def test_targets_that_are_not_there(self):
        for rule in ("3.a = 1;", "3.v = 1;", "999999999999999999.a = 1;", "w = 1;", "1.w = 1;"):
            self.assertEqual(self.rules("v = 1; 1.a = 2; 2.a = 3; " + rule), [-3], rule)

    def test_places_belong_to_their_own_symbols(self):
        text = "S > v; T a > w; p T: { w = a; } q S: T { v = 1.w; 1.a = v; ? 1.a; }"
        self.assertEqual(loaded(text), [0, 2, 2])
        self.assertEqual(loaded(text.replace("v = 1.w", "v = 1.v")), [-3])
        self.assertEqual(loaded(text.replace("? 1.a", "? a")), [-3])
        self.assertEqual(loaded(text.replace("1.a = v", "1.a = w")), [-3])


class Occurrences(unittest.TestCase):
    def test_in_equations_and_conditions(self):
        for expression, answer in (("a", 0), ("0.a", 0), ("v", 0), ("1.v", 0), ("1.a", 0), ("2.v", -3), ("2.a", -3), ("w", -3),
                                   ("0.w", -3), ("1.w", -3), ("S1", -2), ("999999999999999999.v", -3),
                                   ("[1, len(a + (-2.v))]", -3), ("if 1 then 2 else w", -3), ("if w then 2 else 3", -3)):
            head = "S a > v; p S: { v = 0; } q S: S { "
            asked = loaded(head + f"v = 0; 1.a = 0; ? {expression}; }}")
            self.assertEqual(asked[0], answer, expression)
            asked = loaded(head + f"v = {expression}; 1.a = 0; }}")
            self.assertEqual(asked[0], answer, expression)

    def test_no_place_beyond_the_left_side_without_children(self):
        self.assertEqual(loaded("S > v; p S: { v = 1.v; }"), [-3])

    def test_own_numbers(self):
        self.assertEqual(loaded("S > v; p S #: { v = #; ? #; }"), [0, 1, 1])
        self.assertEqual(loaded("S > v; p S: { v = #; }"), [-3])
        self.assertEqual(loaded("S > v; p S: { v = 0; ? [1, -(#)]; }"), [-3])
        self.assertEqual(loaded("S > v; p S #: { v = 0; } q S: { v = #; }"), [-3])
        self.assertEqual(loaded("S > v; p S #: { v = 0; } q S: { v = 0; }"), [0, 1, 2])


class Trees(unittest.TestCase):
    def test_no_production(self):
        self.assertEqual(loaded("S > ;"), [-3])
        self.assertEqual(loaded("S > ; T > ; p S: {}"), [-3])

    def test_only_itself(self):
        self.assertEqual(loaded("S > ; p S: S {}"), [-3])
        self.assertEqual(loaded("S > ; p S: S {} q S: {}"), [0, 1, 2])
        self.assertEqual(loaded("S > ; p S #: S {}"), [-3])

    def test_each_other(self):
        text = "S > ; T > ; U > ; p S: T {} q T: S {} r U: {}"
        self.assertEqual(loaded(text), [-3])
        self.assertEqual(loaded(text + "s T: U U {}"), [0, 3, 4])
        self.assertEqual(loaded(text + "s T: U S {}"), [-3])

    def test_far_behind(self):
        names = "ABCDEFGHIJKL"
        text = "".join(name + " > ;" for name in names)
        text += "".join(f"p{k} {names[k]}: {names[k + 1]} {{}}" for k in range(11))
        self.assertEqual(loaded(text), [-3])
        self.assertEqual(loaded(text + "q L: {}"), [0, 12, 12])
        self.assertEqual(loaded("q L: {}" + text), [0, 12, 12])
        self.assertEqual(loaded(text + "q K: {}"), [-3])

    def test_a_symbol_that_nothing_uses(self):
        self.assertEqual(loaded("S > ; T > ; p S: {} q T: T {}"), [-3])


class Order(unittest.TestCase):
    def test_unreadable_ahead_of_no_grammar(self):
        self.assertEqual(loaded("S > v v; S > ; p T: { w = 2.w; } $"), [-2])
        self.assertEqual(loaded("S > v v; S > ; p T: { w = f(2.w); }"), [-2])
        self.assertEqual(loaded("S > v v; S > ; p T: { w = len(2.w); }"), [-3])
        self.assertEqual(loaded("S > a b c d e; p S: { v = " + "-" * 31 + "#; }"), [-2])
        self.assertEqual(loaded("S > a b c d e; p S: { v = " + "-" * 30 + "#; }"), [-3])

    def test_too_long_ahead_of_all(self):
        self.assertEqual(loaded("S > v v;".ljust(3001)), [-1])
        self.assertEqual(loaded("S > v v;".ljust(3000)), [-3])


class Holding(unittest.TestCase):
    def test_a_second_load_holds_the_second_grammar(self):
        told = ask(load(EXAMPLE), load(SMALL), arrows("top"), arrows("p"), graph(1, "E"), load(EXAMPLE), arrows("lit"))
        self.assertEqual(told, [[0, 2, 3], [0, 1, 1], [-11], [0], [-5], [0, 2, 3], [0, 0, 0, 0, 1]])

    def test_after_a_load_nothing_is_assumed(self):
        told = ask(load(EXAMPLE), assume("E", "v", "d"), graph(2, "E"), load(EXAMPLE), graph(2, "E"), graph(3, "E"),
                   release("E", "v", "d"), assume("E", "v", "d"))
        self.assertEqual(told[2:], [[0, 1, 0], [0, 2, 3], [0], [0, 0, 1], [0], [0]])

    def test_a_refused_load_changes_nothing(self):
        for text, refusal in (("$", -2), ("", -3), (" " * 3001, -1), ("S > ;", -3), ("S > v; p S: { v = 0 }", -2)):
            told = ask(load(EXAMPLE), assume("E", "v", "d"), graph(2, "E"), load(text), graph(2, "E"), arrows("lit"),
                       closure(0, "top"), assume("E", "v", "d"), release("E", "v", "d"), release("E", "v", "d"))
            self.assertEqual(told[2:], [[0, 1, 0], [refusal], [0, 1, 0], [0, 0, 0, 0, 1], [0, 1, 1, 0, 0], [-8], [1], [0]])

    def test_a_refused_first_load_holds_nothing(self):
        told = ask(load("S > v;"), arrows("p"), load(SMALL), arrows("p"))
        self.assertEqual(told, [[-3], [-4], [0, 1, 1], [0]])


if __name__ == "__main__":
    unittest.main()
