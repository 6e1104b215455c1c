"""The refusals of the program."""


class WebError(ValueError):
    """Any refusal."""


class BadWeb(WebError):
    """A number of points or a list of ties of which no web can be made."""


class NoPoint(WebError):
    """A point that is not there."""


class BadText(WebError):
    """A text that is not what is written of some web."""


class BadOrder(WebError):
    """A list that is no order of the points of a web."""


class HasGap(WebError):
    """An order with a gap where one without a gap is needed."""
