"""The refusals of Nearword."""


class NearError(ValueError):
    """Any refusal."""


class BadWord(NearError):
    """What was handed in as a word is none."""


class BadChange(NearError):
    """What was handed in as a change is none, or the text does not allow it."""


class BadMost(NearError):
    """What was handed in as a most is none."""


class Full(NearError):
    """There is no room for another word."""
