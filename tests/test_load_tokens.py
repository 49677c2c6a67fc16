"""Promise 1, load: how a text is parted into tokens, and how long it may be."""

import unittest

from tests.helper import EXAMPLE, ask_last, load

GOOD = [0, 1, 1]


def loaded(text):
    return ask_last(load(text))


def with_expression(expression):
    return "S > v; p S: { v = " + expression + "; }"


class Length(unittest.TestCase):
    def test_3000_bytes_are_taken(self):
        self.assertEqual(loaded(EXAMPLE.ljust(3000)), [0, 2, 3])

    def test_more_bytes_are_refused(self):
        self.assertEqual(loaded(EXAMPLE.ljust(3001)), [-1])
        self.assertEqual(loaded(EXAMPLE.ljust(4000)), [-1])

    def test_length_is_looked_at_first(self):
        self.assertEqual(loaded("$" * 3001), [-1])
        self.assertEqual(loaded(" " * 3001), [-1])
        self.assertEqual(loaded("$" * 3000), [-2])
        self.assertEqual(loaded(" " * 3000), [-3])


class Names(unittest.TestCase):
    def test_12_bytes_are_taken(self):
        for name in ("a23456789012", "abcdefghijkl", "aBCDEFGHIJKL"):
            self.assertEqual(loaded(f"S > {name}; p S: {{ {name} = 0; }}"), GOOD)
            self.assertEqual(loaded(f"S > v; {name} S: {{ v = 0; }}"), GOOD)
        self.assertEqual(loaded("A23456789012 > v; p A23456789012: { v = 0; }"), GOOD)

    def test_13_bytes_are_refused(self):
        self.assertEqual(loaded("S > a234567890123; p S: { a234567890123 = 0; }"), [-2])
        self.assertEqual(loaded("S > v; a234567890123 S: { v = 0; }"), [-2])
        self.assertEqual(loaded("A234567890123 > v; p A234567890123: { v = 0; }"), [-2])

    def test_13_bytes_are_not_two_names(self):
        # Parted as abcdefghijkl and m this would be a symbol with two attributes.
        self.assertEqual(loaded("S > abcdefghijklm; p S: { abcdefghijkl = 0; m = 0; }"), [-2])

    def test_great_and_small_letters_differ(self):
        self.assertEqual(loaded("S > v vV; p S: { v = 0; vV = 0; }"), GOOD)
        self.assertEqual(loaded("S > v; p s: { v = 0; }"), [-2])
        self.assertEqual(loaded("s > v; p s: { v = 0; }"), [-2])
        self.assertEqual(loaded("S > V; p S: { V = 0; }"), [-2])
        self.assertEqual(loaded("S > v; P S: { v = 0; }"), [-2])

    def test_first_and_last_letters(self):
        self.assertEqual(loaded("A > a z; Z > a; p A: { a = 0; z = 9; } q Z: { a = 0; }"), [0, 2, 2])

    def test_words_are_no_names(self):
        for word in ("if", "then", "else"):
            self.assertEqual(loaded(f"S > {word}; p S: {{ {word} = 0; }}"), [-2])
            self.assertEqual(loaded(f"S > v; {word} S: {{ v = 0; }}"), [-2])
            self.assertEqual(loaded(with_expression("0." + word)), [-2])

    def test_names_that_begin_like_words(self):
        for name in ("iff", "thenx", "else1", "iF", "i", "the"):
            self.assertEqual(loaded(f"S > {name}; p S: {{ {name} = 0; }}"), GOOD)
        self.assertEqual(loaded("If > v; p If: { v = 0; }"), GOOD)

    def test_words_stand_alone(self):
        self.assertEqual(loaded(with_expression("if 1 then 2 else 3")), GOOD)
        self.assertEqual(loaded(with_expression("if1 then 2 else 3")), [-2])
        self.assertEqual(loaded(with_expression("if(1)then[2]else 3")), GOOD)
        # A number ends where its digits end, so words may stand right behind it.
        self.assertEqual(loaded(with_expression("if 1then 2else 3")), GOOD)

    def test_other_signs_end_a_name(self):
        self.assertEqual(loaded("S > a_b; p S: { a_b = 0; }"), [-2])
        self.assertEqual(loaded("S>v;p S:{v=0;}"), GOOD)


class Numbers(unittest.TestCase):
    def test_18_digits_are_taken(self):
        for digits in ("123456789012345678", "9" * 18, "0" * 18):
            self.assertEqual(loaded(with_expression(digits)), GOOD)

    def test_19_digits_are_refused(self):
        for digits in ("1234567890123456789", "0" * 19, "0" * 18 + "7"):
            self.assertEqual(loaded(with_expression(digits)), [-2])

    def test_a_name_may_follow_a_number_at_once(self):
        # 12ab is a number and a name; here the name ends one rule's expression wrongly.
        self.assertEqual(loaded(with_expression("12ab")), [-2])
        self.assertEqual(loaded("S > v; p S: { v = [1,2]; ? 123456789012345678 = 0; }"), GOOD)
        self.assertEqual(loaded(with_expression("if " + "1" * 18 + "then 1 else 2")), GOOD)

    def test_zeros_before_a_place(self):
        self.assertEqual(loaded("S > v; p S: { 000.v = 00.v; }"), GOOD)
        self.assertEqual(loaded("S d > v; p S: S { v = 01.v; 0001.d = 000000000000000001.v; } q S: { v = 7; }"), [0, 1, 2])

    def test_a_number_begins_no_name(self):
        self.assertEqual(loaded("S > 1v; p S: { v = 0; }"), [-2])


class Bytes(unittest.TestCase):
    def test_blanks(self):
        self.assertEqual(loaded("\n S\n>\n\nv ;\np  S : {v=0\n;}\n"), GOOD)
        self.assertEqual(loaded("S > v; p S: { v = 0; }"), GOOD)

    def test_bytes_that_begin_no_token(self):
        taken = set(b" \n;:{}()[],.=<>+-*/%&|!?#")
        taken |= set(b"abcdefghijklmnopqrstuvwxyzABCDEFGHIJKLMNOPQRSTUVWXYZ0123456789")
        text = list(b"S > v; p S: { v = 0; }")
        for byte in range(256):
            if byte not in taken:
                self.assertEqual(loaded(text + [byte]), [-2], byte)
                self.assertEqual(loaded([byte] + text), [-2], byte)
                self.assertEqual(loaded(text[:18] + [byte] + text[18:]), [-2], byte)
            elif byte in b" \n":
                self.assertEqual(loaded(text + [byte]), GOOD, byte)

    def test_every_sign_is_a_token(self):
        self.assertEqual(loaded("S > v; p S #: { v = (-1 + 2 * 3 / 4 % 5 - #) < [6, !7] & 0.v | v = 8; ? 1; }"), GOOD)

    def test_signs_are_one_byte_each(self):
        self.assertEqual(loaded(with_expression("1 == 2")), [-2])
        self.assertEqual(loaded(with_expression("1 <= 2")), [-2])
        self.assertEqual(loaded(with_expression("1 && 2")), [-2])
        self.assertEqual(loaded(with_expression("!!1--2")), GOOD)
        self.assertEqual(loaded("S > v; p S: { v=-1; }"), GOOD)


if __name__ == "__main__":
    unittest.main()
