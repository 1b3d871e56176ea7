"""A letter from a hand to a hand."""


class Letter:
    """One letter: it is never changed, so that one that comes twice says the same twice."""

    def __init__(self, kind, sender, to, number, told):
        self.kind = kind
        self.sender = sender
        self.to = to
        self.number = number
        self.told = told
