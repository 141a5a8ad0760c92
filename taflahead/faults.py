"""What goes wrong, one error class each: a grammar that is left, and each refusal of a call."""


class GrammarFault(Exception):
    """No text of the grammar goes on at this place; whose grammar it is, the one who reads knows."""

    def __init__(self, place):
        self.place = place


class TextFault(Exception):
    """A rules' text is at fault."""

    def __init__(self, kind, place):
        self.kind = kind
        self.place = place


class LineFault(Exception):
    """A position's line is at fault."""

    def __init__(self, kind, place):
        self.kind = kind
        self.place = place


class NoRules(Exception):
    """The object has no rules yet."""


class WeightFault(Exception):
    """A weight is too far from 0."""


class BoundsFault(Exception):
    """So far ahead, or with so many moves at most, nothing is looked at."""


class TooManyMoves(Exception):
    """Looking so far ahead makes more moves than are allowed."""
