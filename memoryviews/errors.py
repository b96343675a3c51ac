"""All errors of the package."""


class ViewError(ValueError):
    """What every error of this package is."""


class BadProgram(ViewError):
    """An argument is no program."""


class BadRule(ViewError):
    """An argument is no rule, or none that is meant here."""


class BadRun(ViewError):
    """A run has a deed that cannot be done; `index` tells which one, None if it is no run at all."""

    def __init__(self, index):
        super().__init__("no run by the rule")
        self.index = index


class BadOutcome(ViewError):
    """An argument is no outcome of so many hands."""


class NotOver(ViewError):
    """There is no outcome, because a state is not over."""


class BadWish(ViewError):
    """An argument is no wish of the program."""


class BadHand(ViewError):
    """An argument is not the number of a hand."""


class BadPair(ViewError):
    """Two hands cannot be merged."""


class BadDepth(ViewError):
    """An argument is no depth."""


class BadStand(ViewError):
    """An argument is no stand of the hand."""


class BadOrder(ViewError):
    """An argument is no tuple of different hands."""


class BadRoom(ViewError):
    """An argument is no room."""


class BadScheme(ViewError):
    """An argument is no scheme."""


class BadLog(ViewError):
    """An argument is no log."""


class NoDeed(ViewError):
    """A deed cannot be done."""


class NothingDone(ViewError):
    """There is no deed that could be undone."""


class BadPrices(ViewError):
    """An argument is no dict of prices for gaps of the program."""


class BadRows(ViewError):
    """Two arguments are not two rows that can be exchanged."""


class BadTwins(ViewError):
    """Two programs have not as many hands."""


class BadText(ViewError):
    """A text cannot be read; `index` is that of its first wrong line, None if it is no text."""

    def __init__(self, index):
        super().__init__("no text of a program")
        self.index = index


class NotPlain(ViewError):
    """A program has rows that are not allowed here."""


class TooLarge(ViewError):
    """There is more than is looked at: too many states, too many stories."""
