"""Parts a text into tokens, and walks along them.

A token is a tuple of its kind and what it says: a name its bytes, a number its
value, a mark (a sign or a word, which stand for themselves) its spelling.
"""

from hangson.refusals import Unreadable

GREAT = "great"
SMALL = "small"
NUMBER = "number"
MARK = "mark"
END = "end"

MOST_NAME_BYTES = 12
MOST_DIGITS = 18

WORDS = ("if", "then", "else")

# The sign of byte 37 goes by a word of its own, since it may stand in no text of this program.
SIGNS = {
    59: ";", 58: ":", 123: "{", 125: "}", 40: "(", 41: ")", 91: "[", 93: "]",
    44: ",", 46: ".", 61: "=", 60: "<", 62: ">", 43: "+", 45: "-", 42: "*",
    47: "/", 37: "mod", 38: "&", 124: "|", 33: "!", 63: "?", 35: "#",
}


def is_blank(byte):
    return byte == 32 or byte == 10


def is_digit(byte):
    return 48 <= byte <= 57


def is_great_letter(byte):
    return 65 <= byte <= 90


def is_letter(byte):
    return is_great_letter(byte) or 97 <= byte <= 122


def spelled(word):
    """The bytes of a word, in the form in which names are kept."""
    return tuple([ord(letter) for letter in word])


def end_of_run(text, place):
    """Where the run that begins at this place ends: the longest token, or one byte."""
    end = place + 1
    if is_letter(text[place]):
        while end < len(text) and (is_letter(text[end]) or is_digit(text[end])):
            end += 1
    elif is_digit(text[place]):
        while end < len(text) and is_digit(text[end]):
            end += 1
    return end


def name_token(run):
    if len(run) > MOST_NAME_BYTES:
        raise Unreadable()
    name = tuple(run)
    for word in WORDS:
        if spelled(word) == name:
            return (MARK, word)
    if is_great_letter(run[0]):
        return (GREAT, name)
    return (SMALL, name)


def number_token(run):
    if len(run) > MOST_DIGITS:
        raise Unreadable()
    value = 0
    for byte in run:
        value = value * 10 + byte - 48
    return (NUMBER, value)


def token_of(run):
    if is_letter(run[0]):
        return name_token(run)
    if is_digit(run[0]):
        return number_token(run)
    if run[0] not in SIGNS:
        raise Unreadable()
    return (MARK, SIGNS[run[0]])


def tokens_of(text):
    """All tokens of a text; the last one tells its end."""
    tokens = []
    place = 0
    while place < len(text):
        end = end_of_run(text, place)
        if not is_blank(text[place]):
            tokens.append(token_of(text[place:end]))
        place = end
    tokens.append((END, ""))
    return tokens


class Cursor:
    """A walk along tokens, which refuses the text where the wanted token doesn't stand."""

    def __init__(self, tokens):
        self.tokens = tokens
        self.place = 0

    def next_kind(self):
        return self.tokens[self.place][0]

    def next_mark(self):
        """The sign or word that comes next, or an empty text if it's neither."""
        if self.next_kind() == MARK:
            return self.tokens[self.place][1]
        return ""

    def take(self, kind):
        """Passes a token of this kind and tells what it says."""
        if self.next_kind() != kind:
            raise Unreadable()
        said = self.tokens[self.place][1]
        self.place += 1
        return said

    def take_mark(self, mark):
        if self.take(MARK) != mark:
            raise Unreadable()
