"""The refusals of the program."""


class WayError(ValueError):
    """Any refusal."""


class NotReached(WayError):
    """A place to which no way leads."""


class NoPaper(WayError):
    """A paper that does not hold, or is none."""


class TooMany(WayError):
    """A family with more children than are counted."""


class NoSuch(WayError):
    """A number that no paper has."""


class NoLane(WayError):
    """A lane that can't be put in or dropped."""


class NoPlace(WayError):
    """A place that can't be closed or opened."""


class NothingLeft(WayError):
    """No deed to take back or to do again."""


class NoRound(WayError):
    """A net that does not lead round."""


class NoText(WayError):
    """A text that writes nothing of what was asked for."""


class NoRow(WayError):
    """A row that the desk does not know."""
