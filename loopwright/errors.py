"""What the program refuses: one class for each refusal."""


class PlaitError(ValueError):
    """Any refusal."""


class NoPlait(PlaitError):
    """What should be a plait is none."""


class NoRoom(PlaitError):
    """More would come of it than there is room for."""


class NoStep(PlaitError):
    """What is asked for can't be done with what is there."""


class NoTable(PlaitError):
    """What should be a table of colours, or a row of its colours, is none."""


class NoNumber(PlaitError):
    """A number is not one of those that are asked for."""


class BadNote(PlaitError):
    """A text doesn't write what it should."""
