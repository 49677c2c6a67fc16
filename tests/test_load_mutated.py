"""Promise 1, load: many texts with tokens changed, held against a reader that goes by the document's rules alone.

That reader follows all choices at once: a rule answers every place at which what it reads may end. So it shares none of the
program's ways to choose by the next token.
"""

import random
import unittest

from tests.helper import EXAMPLE, ask, load

COUNTS = {"len": 1, "at": 2, "cat": 2, "look": 3, "drop": 2, "has": 2, "max": 2, "min": 2}
TEXTS = [EXAMPLE, "S a > v; p S #: { v = if a = 1 then [#, -a, 0.a] else (len([a]) + max(1, 2)); ? a < 3 & !a | 4 % 2; }",
         "A > ; B x y > z; q A: B { 1.x = 1.z; 1.y = look(1, at(1.x, 2), []); } r B: { z = x * y / 2 - cat(x, drop(y, 1)); }"]
SPARE = "; : { } ( ) [ ] , . = < > + - * / % & | ! ? # if then else 0 1 2 S A a v len max f".split()


def tokens_of(text):
    for sign in ";:{}()[],.=<>+-*/%&|!?#":
        text = text.replace(sign, f" {sign} ")
    return text.split()


class Reader:
    def __init__(self, tokens):
        self.tokens = tokens
        self.known = {}

    def one(self, places, test):
        return {place + 1 for place in places if place < len(self.tokens) and test(self.tokens[place])}

    def mark(self, places, *marks):
        return self.one(places, lambda token: token in marks)

    def small(self, places):
        return self.one(places, lambda token: token[0].islower() and token not in ("if", "then", "else"))

    def great(self, places):
        return self.one(places, lambda token: token[0].isupper())

    def number(self, places):
        return self.one(places, lambda token: token[0].isdigit())

    def many(self, places, step):
        reached = set(places)
        new = set(places)
        while new:
            new = step(new) - reached
            reached |= new
        return reached

    def rule(self, name, places):
        """All ends of a rule from all these places."""
        ends = set()
        for place in places:
            if (name, place) not in self.known:
                self.known[name, place] = getattr(self, name)({place})
            ends |= self.known[name, place]
        return ends

    def expression(self, at):
        part = self.rule("expression", self.mark(at, "if"))
        part = self.rule("expression", self.mark(part, "then"))
        return self.rule("expression", self.mark(part, "else")) | self.rule("choice", at)

    def chain(self, at, name, *marks):
        return self.many(self.rule(name, at), lambda ends: self.rule(name, self.mark(ends, *marks)))

    def choice(self, at):
        return self.chain(at, "both", "|")

    def both(self, at):
        return self.chain(at, "comparison", "&")

    def comparison(self, at):
        one = self.rule("total", at)
        return one | self.rule("total", self.mark(one, "=", "<"))

    def total(self, at):
        return self.chain(at, "product", "+", "-")

    def product(self, at):
        return self.chain(at, "signed", "*", "/", "%")

    def signed(self, at):
        signs = self.mark(at, "-", "!")
        return (self.rule("signed", signs) if signs else set()) | self.rule("atom", at)

    def listed(self, at):
        """Expressions with commas between them, at least one."""
        return self.chain(at, "expression", ",")

    def atom(self, at):
        ends = self.number(at) | self.small(self.mark(self.number(at), ".")) | self.small(at) | self.mark(at, "#")
        ends |= self.mark(self.rule("expression", self.mark(at, "(")), ")")
        inner = self.mark(at, "[")
        ends |= self.mark(inner | self.rule("listed", inner), "]")
        for name, count in COUNTS.items():
            inner = self.mark(self.mark(at, name), "(")
            for k in range(count):
                inner = self.rule("expression", self.mark(inner, ",") if k else inner)
            ends |= self.mark(inner, ")")
        return ends

    def equation(self, at):
        target = self.small(at) | self.small(self.mark(self.number(at), "."))
        inner = self.mark(target, "=") | self.mark(at, "?")
        return self.mark(self.rule("expression", inner), ";")

    def statement(self, at):
        symbol = self.mark(self.many(self.great(at), self.small), ">")
        symbol = self.mark(self.many(symbol, self.small), ";")
        head = self.great(self.small(at))
        head = self.many(self.mark(head | self.mark(head, "#"), ":"), self.great)
        rules = self.many(self.mark(head, "{"), lambda ends: self.rule("equation", ends))
        return symbol | self.mark(rules, "}")

    def reads(self):
        return len(self.tokens) in self.many({0}, lambda ends: self.rule("statement", ends))


def changed(rng, tokens):
    tokens = list(tokens)
    for k in range(rng.choice([1, 1, 1, 2, 2, 3])):
        place = rng.randrange(len(tokens))
        choice = rng.randrange(7)
        if choice == 0:
            tokens.pop(place)
        elif choice == 1:
            tokens.insert(place, rng.choice(SPARE + tokens))
        elif choice == 2:
            tokens[place] = rng.choice(SPARE + tokens)
        elif choice == 3:
            other = rng.randrange(len(tokens))
            tokens[place], tokens[other] = tokens[other], tokens[place]
        else:
            # A change that leaves many texts readable: an operator and an argument more, behind one that is there.
            places = [k for k, token in enumerate(tokens) if token in ("a", "v", "1", "2", "]", ")")]
            place = rng.choice(places) + 1
            tokens[place:place] = [rng.choice("|&=<+-*/%")] + rng.choice(["1", "0 . a", "- a", "! #", "[ ]", "( 1 = 2 )"]).split()
    return tokens


class Mutated(unittest.TestCase):
    def test_the_reader_itself(self):
        for text in TEXTS:
            self.assertTrue(Reader(tokens_of(text)).reads())
        self.assertFalse(Reader(tokens_of("S > v")).reads())

    def test_changed_texts(self):
        rng = random.Random(7)
        readable = 0
        for step in range(60):
            texts = [" ".join(changed(rng, tokens_of(rng.choice(TEXTS)))) for k in range(50)]
            told = ask(*[load(text) for text in texts])
            for text, answer in zip(texts, told):
                reads = Reader(text.split()).reads()
                readable += reads
                self.assertEqual(answer == [-2], not reads, text)
        self.assertGreater(readable, 300)
        self.assertLess(readable, 2700)


if __name__ == "__main__":
    unittest.main()
