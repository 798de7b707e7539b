"""The refusals: errors that keep the very things they were made of, and look at none of them."""


class LayError(ValueError):
    """Any refusal; itself never raised."""


class NoPaper(LayError):
    """A checker does not let a paper by."""

    def __init__(self, word, number):
        self.word = word
        self.number = number


class NoLay(LayError):
    """There is no such LAY."""

    # Without this a thing could be handed in, as any ValueError takes some.
    def __init__(self):
        pass


class NoTie(LayError):
    """A thing is no TIE that could be taken there."""

    def __init__(self, word):
        self.word = word


class Crossed(LayError):
    """A TIE is CROSSED."""

    def __init__(self, tie):
        self.tie = tie


class NoPoint(LayError):
    """A thing is no POINT that could be taken there."""

    def __init__(self, word):
        self.word = word


class TooMany(LayError):
    """There are more of a kind than are taken."""

    def __init__(self, word):
        self.word = word


class NoStep(LayError):
    """No deed is left that could be taken back."""

    # As with NoLay.
    def __init__(self):
        pass


class NoText(LayError):
    """A text cannot be read."""

    def __init__(self, row, word):
        self.row = row
        self.word = word


class NoRow(LayError):
    """A desk does not know a row."""

    def __init__(self, row):
        self.row = row
