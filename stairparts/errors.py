"""The refusals: each is a PartError."""


class PartError(ValueError):
    """Any refusal."""


class NoParting(PartError):
    """What was handed in as a parting is none."""


class NoFit(PartError):
    """What was handed in does not fit together."""


class NoNumber(PartError):
    """What was handed in as a number is none, or none that there is."""
