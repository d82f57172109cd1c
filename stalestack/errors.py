"""The refusals: each kind is an error class of its own under PileError."""


class PileError(ValueError):
    """Any refusal."""


class BadPile(PileError):
    """The values at first cannot be: at is the number, from 0, of the first bad one."""

    def __init__(self, at):
        PileError.__init__(self, f"no pile: value {at}")
        self.at = at


class BadDeed(PileError):
    """A deed cannot be: hand and number, both from 0, tell which one."""

    def __init__(self, hand, number):
        PileError.__init__(self, f"no deed: hand {hand}, deed {number}")
        self.hand = hand
        self.number = number


class BadRule(PileError):
    """The rule cannot be."""


class NoHand(PileError):
    """There is no such hand."""
