"""The refusals of the program."""


class WalkError(ValueError):
    """Any refusal."""


class BadSaying(WalkError):
    """What was handed in is no saying."""


class TooMany(WalkError):
    """A saying has more bonds than are judged."""


class BadMachine(WalkError):
    """What was handed in makes no machine."""


class NoWalk(WalkError):
    """What was handed in is no endless walk of the machine."""
