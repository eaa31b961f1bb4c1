"""The refusals: each an error of a class of its own, straight under MarkError."""


class MarkError(ValueError):
    """What every refusal of this package stands under."""


class NoStand(MarkError):
    """A word that was to stand in a row stands nowhere in it."""


class NoNet(MarkError):
    """Marks that were to be a net are none."""


class NoPlace(MarkError):
    """A number is no such place, or no such number, as was asked for."""


class NoLetter(MarkError):
    """A letter was asked for, and there is none."""


class NoTelling(MarkError):
    """A list that was to tell a row tells none."""


class NoRules(MarkError):
    """A list that was to be rules is none."""


class NoTails(MarkError):
    """A text that was to be the letters ahead of a row is none."""


class NoPeriods(MarkError):
    """A row has not the two periods that were named."""


class TooMany(MarkError):
    """There are more letters than are let."""
