"""The refusals of the program, each a class of its own."""


class WayError(ValueError):
    """Any refusal."""


class NoDoor(WayError):
    """Some state of the world has no door."""


class NoState(WayError):
    """A number is named that is no state's place."""


class NoWay(WayError):
    """There is no way that shows the sentence."""
