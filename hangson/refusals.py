"""The refusals of the calls, each with the number that is its whole answer."""


class Refusal(Exception):
    """A call that is refused: it has changed nothing."""

    def __init__(self, number):
        self.number = number


class TooLong(Refusal):
    """A text of too many bytes."""

    def __init__(self):
        Refusal.__init__(self, -1)


class Unreadable(Refusal):
    """A text that can't be parted into tokens or read by the rules."""

    def __init__(self):
        Refusal.__init__(self, -2)


class NoGrammar(Refusal):
    """A text that can be read and is no grammar."""

    def __init__(self):
        Refusal.__init__(self, -3)


class NothingHeld(Refusal):
    """A call that asks for a grammar where none is held."""

    def __init__(self):
        Refusal.__init__(self, -4)


class NoSuchSymbol(Refusal):
    """A name that no symbol has."""

    def __init__(self):
        Refusal.__init__(self, -5)


class NoSuchAttribute(Refusal):
    """A name that no attribute of the symbol has."""

    def __init__(self):
        Refusal.__init__(self, -6)


class SameDirection(Refusal):
    """A pair to be assumed of two attributes that are both handed down or both handed up."""

    def __init__(self):
        Refusal.__init__(self, -7)


class AssumedAlready(Refusal):
    """A pair to be assumed that is assumed."""

    def __init__(self):
        Refusal.__init__(self, -8)


class TooManyAssumed(Refusal):
    """A pair to be assumed where no more may be."""

    def __init__(self):
        Refusal.__init__(self, -9)


class NoSuchKind(Refusal):
    """A number that is no kind of what is asked for."""

    def __init__(self):
        Refusal.__init__(self, -10)


class NoSuchProduction(Refusal):
    """A name that no production has."""

    def __init__(self):
        Refusal.__init__(self, -11)


class NoSuchOccurrence(Refusal):
    """A place and an attribute that are no occurrence of the production."""

    def __init__(self):
        Refusal.__init__(self, -12)


class NotFromBelow(Refusal):
    """A pair that the family from below doesn't have."""

    def __init__(self):
        Refusal.__init__(self, -13)
