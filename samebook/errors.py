"""The refusals of the program."""


class SameError(ValueError):
    """Any refusal."""


class NoRow(SameError):
    """A thing, or a thing in it, has no row in a world."""


class NoThing(SameError):
    """A text is no line that a thing is written as."""


class NoMoment(SameError):
    """A moment lies below nought or behind all that is told."""
