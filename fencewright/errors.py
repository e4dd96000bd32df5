"""The refusals of the package."""


class WebError(ValueError):
    """Any refusal."""


class BadWeb(WebError):
    """What was handed in as a web is none."""


class NoMove(WebError):
    """What was handed in as a move cannot be done."""


class NotOver(WebError):
    """The web is not over in this state."""


class NoPlace(WebError):
    """Something in a list of places is no place of the web."""


class NoText(WebError):
    """What was handed in as a text is not what is written of some web."""
