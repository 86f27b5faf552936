"""The refusals of the program."""


class BagError(ValueError):
    """Any refusal."""


class BadWeb(BagError):
    """What was handed in as many and ties is no web."""


class BadCount(BagError):
    """What was handed in is no number that is wanted there."""


class BadLayout(BagError):
    """What was handed in is no layout of the web."""


class BadThicket(BagError):
    """What was handed in is no thicket of the web."""
