"""What a folk refuses, one class for each kind of refusal."""


class FolkError(ValueError):
    """Any refusal."""


class BadHand(FolkError):
    """What was handed in is no hand, or no number of hands."""


class BadList(FolkError):
    """What was handed in is no list of hands."""


class NoLetter(FolkError):
    """No letter is under way at this place."""


class Fallen(FolkError):
    """The hand fell away."""


class Outside(FolkError):
    """The hand is in no list."""


class NotFirst(FolkError):
    """The hand is not the first of its list."""


class NoNews(FolkError):
    """The hand is in the first list, into which no enter brought it."""
