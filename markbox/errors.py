"""The refusals of Markbox."""


class MarkError(ValueError):
    """Any refusal."""


class BadSize(MarkError):
    """A table would have too few or too many marks, or too many things."""


class BadMark(MarkError):
    """A number is no mark of the table."""


class BadThing(MarkError):
    """A number is no thing of the table."""


class NoBox(MarkError):
    """A pair of things and marks is no box of the table."""
