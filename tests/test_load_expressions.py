"""Promise 1, load: how expressions are read, and their bounds of parts and levels."""

import unittest

from tests.helper import ask_last, load

GOOD = [0, 1, 1]


def loaded(expression):
    return ask_last(load("S d len > v; p S #: { v = " + expression + "; }"))


def asked(expression):
    """The same expression in a condition."""
    return ask_last(load("S d len > v; p S #: { v = 0; ? " + expression + "; }"))


class Reading(unittest.TestCase):
    def takes(self, *expressions):
        for expression in expressions:
            self.assertEqual(loaded(expression), GOOD, expression)
            self.assertEqual(asked(expression), GOOD, expression)

    def refuses(self, *expressions):
        for expression in expressions:
            self.assertEqual(loaded(expression), [-2], expression)
            self.assertEqual(asked(expression), [-2], expression)

    def test_atoms(self):
        self.takes("0", "007", "#", "d", "0.d", "0 . d", "(d)", "((d))", "[]", "[1]", "[1, [d], #]")

    def test_no_atoms(self):
        self.refuses("", "S", "()", "(1", "1)", "[", "]", "[1", "[1,]", "[,1]", "[,]", "[1 2]", "(1, 2)", "1 2", "d d",
                     ".d", "0.", "0.1", "0.S", "0.#", "0.(d)", "d.d", "d.0", "0.d.d", "# #", "#d", "?", "{1}", ":")

    def test_if(self):
        self.takes("if 1 then 2 else 3", "if 1 then 2 else 3 + 4", "if if 1 then 2 else 3 then 4 else 5",
                   "if 1 then if 2 then 3 else 4 else if 5 then 6 else 7", "(if 1 then 2 else 3) + 4",
                   "[if 1 then 2 else 3]", "len(if 1 then 2 else 3)", "if 1 | 2 then 3 & 4 else 5 = 6")

    def test_if_wrong(self):
        self.refuses("if", "if 1", "if 1 then 2", "if 1 then 2 else", "if then 2 else 3", "if 1 then else 3",
                     "1 then 2 else 3", "if 1 else 2 then 3", "then", "else", "if 1 then 2 else 3 else 4",
                     "1 + if 1 then 2 else 3", "- if 1 then 2 else 3", "! if 1 then 2 else 3",
                     "1 = if 1 then 2 else 3", "1 | if 1 then 2 else 3", "if 1, then 2 else 3", "if = 1")

    def test_operators(self):
        for sign in "|&=<+-*/%":
            self.takes("1" + sign + "2", "d " + sign + " - d", "(1" + sign + "2)" + sign + "3",
                       "1" + sign + "(2" + sign + "3)", "!1" + sign + "!2")
            self.refuses("1" + sign, "1" + sign + ")", "(1" + sign + ")")
            if sign != "-":
                self.refuses(sign + "1", "1" + sign + sign + "2")
        for sign in "|&+-*/%":
            self.takes(sign.join("1234"))

    def test_signs_before_one_argument(self):
        self.takes("-1", "!1", "--1", "!-!1", "1--1", "1 - - 1", "1*-1", "-1=-1", "1&!1", "-(1)", "![]", "-len(1)", "-#")
        self.refuses("-", "!", "1!", "1-", "1!2", "- *1", "(-)", "+1")

    def test_one_comparison_at_most(self):
        self.takes("1 = 2", "1 < 2", "1 + 2 = 3 * 4", "(1 = 2) = 3", "1 = (2 < 3)", "1 = 2 & 3 < 4", "1 = 2 | 3 = 4",
                   "[1 = 2, 3 < 4]", "if 1 = 2 then 3 = 4 else 5 = 6", "len(1 = 2) = 3")
        self.refuses("1 = 2 = 3", "1 < 2 < 3", "1 = 2 < 3", "1 < 2 = 3", "1 = 2 + 3 = 4", "1 > 2", "1 & 2 = 3 = 4",
                     "1 = 2 | 3 = 4 = 5")

    def test_calls(self):
        counts = {"len": 1, "at": 2, "cat": 2, "look": 3, "drop": 2, "has": 2, "max": 2, "min": 2}
        for name, count in counts.items():
            for given in range(6):
                call = name + "(" + ", ".join("12345"[:given]) + ")"
                if given == count:
                    self.takes(call, call + " + 1", "[" + call + "]", name + " " + call[len(name):])
                else:
                    self.refuses(call)

    def test_other_calls(self):
        self.refuses("d(1)", "v(1)", "f()", "le(1)", "lenx(1)", "Len(1)", "LEN(1)", "size(1)", "if(1)", "at(1, 2", "at(1 2)",
                     "at(1,,2)", "at(,1)", "at(1,)", "len[1]", "len()", "sum(1)")

    def test_an_attribute_called_len(self):
        self.takes("len", "0.len", "len + 1", "len(len)", "len(0.len)", "[len]", "(len)")
        self.refuses("0.len(1)", "len len", "len 1", "0.len(len)")

    def test_words_of_calls_as_occurrences_are_not_found(self):
        # Without a bracket behind it max is an occurrence's name, here of no attribute.
        self.assertEqual(loaded("max"), [-3])
        self.assertEqual(loaded("f"), [-3])


class Parts(unittest.TestCase):
    def both(self, sixty, more):
        """Of 60 and of 61 parts."""
        self.assertEqual(loaded(sixty), GOOD)
        self.assertEqual(loaded(more), [-2])
        self.assertEqual(asked(sixty), GOOD)
        self.assertEqual(asked(more), [-2])

    def test_numbers_and_operators(self):
        self.both("-" + "+".join(["1"] * 30), "+".join(["1"] * 31))
        self.assertEqual(loaded("+".join(["1"] * 30)), GOOD)

    def test_each_operator_counts(self):
        for sign in "|&+-*/%":
            self.both("!" + sign.join(["1"] * 30), sign.join(["1"] * 31))

    def test_comparisons_count(self):
        # Fifteen comparisons of three parts each with fourteen operators between them are 59 parts.
        self.both("!" + "&".join(["1=2"] * 15), "!!" + "|".join(["1<2"] * 15))

    def test_occurrences_count(self):
        self.both("[" + ",".join(["d"] * 59) + "]", "[" + ",".join(["d"] * 60) + "]")
        self.both("[" + ",".join(["0.d"] * 59) + "]", "[" + ",".join(["0.d"] * 60) + "]")

    def test_own_numbers_count(self):
        self.both("[" + ",".join(["#"] * 59) + "]", "[" + ",".join(["#"] * 60) + "]")

    def test_lists_count(self):
        self.both("[" + ",".join(["[]"] * 59) + "]", "[" + ",".join(["[]"] * 60) + "]")

    def test_signs_count(self):
        self.both("[-1," + ",".join(["1"] * 57) + "]", "[-1," + ",".join(["1"] * 58) + "]")
        self.both("[!!1," + ",".join(["1"] * 56) + "]", "[!!1," + ",".join(["1"] * 57) + "]")

    def test_ifs_count(self):
        four = "if 1 then 2 else 3"
        self.both("[" + ",".join([four] * 14) + ",1,2,3]", "[" + ",".join([four] * 15) + "]")

    def test_calls_count(self):
        for call, parts in (("len(1)", 2), ("at(1,2)", 3), ("cat(1,2)", 3), ("look(1,2,3)", 4), ("drop(1,2)", 3),
                            ("has(1,2)", 3), ("max(1,2)", 3), ("min(1,2)", 3)):
            self.both("[" + call + ",1" * (59 - parts) + "]", "[" + call + ",1" * (60 - parts) + "]")

    def test_brackets_are_no_parts(self):
        self.both("[" + ",".join(["(((1)))"] * 59) + "]", "[" + ",".join(["(1)"] * 60) + "]")

    def test_each_expression_has_its_own_parts(self):
        sixty = "[" + ",".join(["1"] * 59) + "]"
        text = f"S > v w; p S: {{ v = {sixty}; w = {sixty}; ? {sixty}; }}"
        self.assertEqual(ask_last(load(text)), GOOD)


class Levels(unittest.TestCase):
    def both(self, levels):
        """Levels is a def that gives an expression of so many levels."""
        self.assertEqual(loaded(levels(30)), GOOD)
        self.assertEqual(loaded(levels(31)), [-2])
        self.assertEqual(asked(levels(30)), GOOD)
        self.assertEqual(asked(levels(31)), [-2])

    def test_brackets(self):
        self.both(lambda n: "(" * n + "d" + ")" * n)

    def test_lists(self):
        self.both(lambda n: "[" * n + "]" * n)

    def test_calls(self):
        self.both(lambda n: "len(" * n + "d" + ")" * n)
        self.both(lambda n: "max(1," * 14 + "(" * (n - 14) + "d" + ")" * n)

    def test_signs(self):
        self.both(lambda n: "-" * n + "d")
        self.both(lambda n: "!" * n + "d")
        self.both(lambda n: "-!" * (n // 2) + "-" * (n % 2) + "d")

    def test_ifs_in_each_of_their_parts(self):
        # Nineteen ifs within one another have 58 parts, so that brackets make up the levels that lack.
        def deep(n):
            return "(" * (n - 19) + "d" + ")" * (n - 19)
        self.both(lambda n: "if 1 then 2 else " * 19 + deep(n))
        self.both(lambda n: "if 1 then " * 19 + deep(n) + " else 2" * 19)
        self.both(lambda n: "if " * 19 + deep(n) + " then 1 else 2" * 19)

    def test_all_of_them_mixed(self):
        def mixed(n):
            k = n - 26
            return "([-!len(if 1 then " * 4 + "(if 2 then " + "(" * k + "d" + ")" * k + " else 3)" + " else 4)])" * 4
        # Six levels four times and two more are 26.
        self.both(mixed)

    def test_levels_end(self):
        # What has ended leaves room for 30 levels behind it, and for no more.
        for ended in ("(1)+", "((1))+", "[]+", "[1,2]+", "[[1],[]]+", "len(1)+", "max(1,2)+", "at([1],(2))+", "-1*", "!1*", "--1+!1*",
                      "-(1)-", "!len(1)-", "-[]&", "(if 1 then 2 else 3)+", "[if 1 then 2 else 3]+", "len(-1)|",
                      "(if (1) then -2 else [3])="):
            self.both(lambda n: ended + "(" * n + "1" + ")" * n)
            self.both(lambda n: "[" + ended + "(" * (n - 1) + "1" + ")" * (n - 1) + "]")
        for ended in ("if 1 then 2 else 3", "if (1) then [2] else -3", "if 1 then 2 else if 3 then 4 else 5", "(1)", "-1", "[]"):
            self.both(lambda n: "[" + ended + "," + "(" * (n - 1) + "1" + ")" * (n - 1) + "]")
        for before, behind in (("if (1) then ", " else 4"), ("if -1 then ", " else 4"), ("if [1] then len(2) else ", ""),
                               ("if if 1 then 2 else 3 then ", " else 4")):
            self.both(lambda n: before + "(" * (n - 1) + "1" + ")" * (n - 1) + behind)

    def test_a_sign_lasts_as_long_as_its_argument(self):
        deep = "(" * 29 + "1" + ")" * 29
        self.assertEqual(loaded("-" + deep), GOOD)
        self.assertEqual(loaded("-(" + deep + ")"), [-2])
        self.assertEqual(loaded("!-" + deep), [-2])
        self.assertEqual(loaded("-[" + deep[1:-1] + "]"), GOOD)
        self.assertEqual(loaded("-len(" + deep + ")"), [-2])

    def test_an_if_lasts_till_its_last_part_ends(self):
        deep = "(" * 29 + "1" + ")" * 29
        self.assertEqual(loaded("if 1 then 2 else 3 + " + deep), GOOD)
        self.assertEqual(loaded("if 1 then 2 else 3 + (" + deep + ")"), [-2])
        self.assertEqual(loaded("if (" + deep + ") then 2 else 3"), [-2])
        self.assertEqual(loaded("if " + deep + " then " + deep + " else " + deep), GOOD)

    def test_each_expression_has_its_own_levels(self):
        deep = "(" * 30 + "1" + ")" * 30
        text = f"S > v w; p S: {{ v = {deep}; w = {deep}; ? {deep}; }}"
        self.assertEqual(ask_last(load(text)), GOOD)

    def test_far_too_deep(self):
        self.assertEqual(loaded("(" * 1400 + "1" + ")" * 1400), [-2])
        self.assertEqual(loaded("-" * 2900), [-2])
        self.assertEqual(loaded("[" * 2900), [-2])
        self.assertEqual(loaded("if " * 900), [-2])


if __name__ == "__main__":
    unittest.main()
