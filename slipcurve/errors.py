"""The refusals: one class for each kind, all under SlipError."""


class SlipError(ValueError):
    """Any refusal."""


class TooFew(SlipError):
    """So few places are asked for, or heard, that very many polynomials may fit."""


class NoCurve(SlipError):
    """Codes whose polynomials have one number only have no curves."""


class NoPaper(SlipError):
    """There is no paper that holds, or the one that is handed in does not hold."""


class NoPlace(SlipError):
    """A number of no place of the code."""


class NoNumber(SlipError):
    """What is no number of the code, or no number of slips."""


class Heard(SlipError):
    """The place is heard already."""


class NotHeard(SlipError):
    """Nothing is heard at the place."""


class NothingLeft(SlipError):
    """There is nothing to take back, or nothing to do again."""


class NoText(SlipError):
    """What is written of no code."""


class NoRow(SlipError):
    """What is none of the rows that a desk is told."""
