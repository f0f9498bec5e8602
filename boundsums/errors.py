"""The refusals of the program, one class for each kind."""


class BoundError(ValueError):
    """Any refusal."""


class BadGrid(BoundError):
    """What is no grid."""


class BadStretch(BoundError):
    """What is no stretch."""


class BadFraction(BoundError):
    """What is no fraction."""


class BadTerm(BoundError):
    """What is no term."""


class BadText(BoundError):
    """What is not written as a term is."""


class NoLetter(BoundError):
    """A letter of a term that a point or a box lacks."""

    def __init__(self, name):
        super().__init__(f"nothing is given for the letter {name}")
        self.name = name


class ByNought(BoundError):
    """Something is to be divided by nought."""


class BadCount(BoundError):
    """A count that is none, or outside of its limits."""
