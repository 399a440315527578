"""The errors of the package; each is raised without arguments."""


class AcquitError(ValueError):
    """What all errors of the package have in common."""


class BadSetup(AcquitError):
    """What was handed in is not a setup."""


class NoSuch(AcquitError):
    """There is no such node, card, purchase or message."""


class BadStage(AcquitError):
    """The amount or the stage of a purchase does not allow the call."""


class Stopped(AcquitError):
    """The node that should act is not up."""
